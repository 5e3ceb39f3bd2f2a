/- Of what SoftFmasRow stands on: SxFma. -/
import Derived.Test.YtfimakkpdjppfaaGreatDoorPbh
import Derived.Test.YtfimakkpdjppfaaGreatDoorPbr
import Derived.Test.YtfimakkpdjppfaaGreatDoorPbk
import Derived.Test.YtfimakkpdjppfaaGreatDoorPau
namespace Go.Proofs.YtfimakkpdjppfaaGreatDoor
open Go.RowKit
set_option maxHeartbeats 16000000
set_option maxRecDepth 20000
structure Sxf2S where
 (b0 b1 b2 b3 b4 b5 b6 b7 b8 b9 b10 b11 b12 b13 b14:Bool)
 (v0 v1 v2 v3 v4 v5 v6 v7 v8 v9 v10 v11:Value)
 (A2:Option Addr)
 (N2 C2:Nat)
 (A5:Option Addr)
 (N5 C5:Nat)
 (A8:Option Addr)
 (N8 C8:Nat)
 bs9:List En
 os9:Os
structure Sxf2R (w:World) (E F a b c md:Int) (g0 n0 q0 i0 s0 g1 n1 q1 i1 s1 g2 n2 q2 i2 s2:Bool) (m0 m1 m2:Nat) (x0 x1 x2:Int) (S9:Nat) (b0 b1 b2 b3 b4 b5 b6 b7 b8 b9 b10 b11 b12 b13 b14:Bool) (v0 v1 v2 v3 v4 v5 v6 v7 v8 v9 v10 v11:Value) (A2:Option Addr) (N2 C2:Nat) (A5:Option Addr) (N5 C5:Nat) (A8:Option Addr) (N8 C8:Nat) (bs9:List En) (os9:Os) (w':World):Prop where
 hc:Rc w S9 [⟨w.heap.size,#[.int .i64 E,.int .i64 F],23⟩] [] [] none bs9 os9 w'
 f0:b0 = true→v0 = .agg #[.int .i64 E,.int .i64 F]
 f1:b1 = true→v1 = .int .u64 a
 f2:b2 = true→v2 = .agg #[.bool g0,.bool n0,.bool q0,.bool i0,.bool s0,.slice A2 N2 C2,.int .i64 x0]∧(A2,N2,C2,m0)∈os9
 f3:b3 = true→v3 = .agg #[.int .i64 E,.int .i64 F]
 f4:b4 = true→v4 = .int .u64 b
 f5:b5 = true→v5 = .agg #[.bool g1,.bool n1,.bool q1,.bool i1,.bool s1,.slice A5 N5 C5,.int .i64 x1]∧(A5,N5,C5,m1)∈os9
 f6:b6 = true→v6 = .agg #[.int .i64 E,.int .i64 F]
 f7:b7 = true→v7 = .int .u64 c
 f8:b8 = true→v8 = .agg #[.bool g2,.bool n2,.bool q2,.bool i2,.bool s2,.slice A8 N8 C8,.int .i64 x2]∧(A8,N8,C8,m2)∈os9
 f9:b9 = true→AlN bs9 S9 v9 48 7
 f10:b10 = true→AlN bs9 S9 v10 48 7
 f11:b11 = true→AlN bs9 S9 v11 48 7
 f12:b12 = true→StN bs9 S9 v9 #[.bool g0,.bool n0,.bool q0,.bool i0,.bool s0,.slice A2 N2 C2,.int .i64 x0] 48
 f13:b13 = true→StN bs9 S9 v10 #[.bool g1,.bool n1,.bool q1,.bool i1,.bool s1,.slice A5 N5 C5,.int .i64 x1] 48
 f14:b14 = true→StN bs9 S9 v11 #[.bool g2,.bool n2,.bool q2,.bool i2,.bool s2,.slice A8 N8 C8,.int .i64 x2] 48
 d9_10:b9 = true→b10 = true→v9≠v10
 d9_11:b9 = true→b11 = true→v9≠v11
 d10_11:b10 = true→b11 = true→v10≠v11
 g12_9:b12 = true→b9 = true
 g12_2:b12 = true→b2 = true
 g13_10:b13 = true→b10 = true
 g13_5:b13 = true→b5 = true
 g14_11:b14 = true→b11 = true
 g14_8:b14 = true→b8 = true
def Sxf2I (w:World) (E F a b c md:Int) (g0 n0 q0 i0 s0 g1 n1 q1 i1 s1 g2 n2 q2 i2 s2:Bool) (m0 m1 m2:Nat) (x0 x1 x2:Int) (S9:Nat) (l:Array Bool) (act:Act) (w':World):Sxf2S→Prop
 | ⟨b0,b1,b2,b3,b4,b5,b6,b7,b8,b9,b10,b11,b12,b13,b14,v0,v1,v2,v3,v4,v5,v6,v7,v8,v9,v10,v11,A2,N2,C2,A5,N5,C5,A8,N8,C8,bs9,os9⟩=>l = #[b0,b1,b2,b3,b4,b5,b6,b7,b8,b9,b10,b11,b12,b13,b14]∧act = { tmps:=#[.agg #[.int .i64 E,.int .i64 F],.int .u64 a,.int .u64 b,.int .u64 c,.int .u8 md,.pointer (some ⟨w.heap.size,0,none⟩),undef,undef,undef,undef,.int .u64 0,.int .u8 0,.int .i64 0,.int .i64 0,v9,v10,v11,undef,undef,undef,undef,undef,undef,undef,.agg #[.int .i64 E,.int .i64 F],.int .u8 md,.int .u64 a,.int .u64 b,.int .u64 c,.slice (some ⟨w.heap.size+1,0,none⟩) 3 3,.int .i64 0,.int .i64 0,.bool false,undef,v0,v1,v2,v3,v4,v5,v6,v7,v8,undef,undef,undef,undef,undef,undef,undef,undef,undef,undef,undef,undef,undef,undef,undef,undef,undef,undef,undef,undef,undef,undef,undef,undef,undef,undef,undef,undef,undef,undef,undef,undef,undef,undef,undef,undef,undef,undef,undef,undef,undef,undef,undef,undef,undef,undef,undef,undef,undef,undef,undef,undef,undef,undef,undef,undef,undef,undef,undef,undef,undef,undef,undef,undef,undef,undef,undef,undef,undef,undef,undef,undef,undef,undef,undef,undef,undef,undef,undef,undef,undef,undef,undef,undef,undef,undef,undef,undef,undef,undef],defers:=[] }∧Sxf2R w E F a b c md g0 n0 q0 i0 s0 g1 n1 q1 i1 s1 g2 n2 q2 i2 s2 m0 m1 m2 x0 x1 x2 S9 b0 b1 b2 b3 b4 b5 b6 b7 b8 b9 b10 b11 b12 b13 b14 v0 v1 v2 v3 v4 v5 v6 v7 v8 v9 v10 v11 A2 N2 C2 A5 N5 C5 A8 N8 C8 bs9 os9 w'
theorem xFma_ok (w:World) (E F a b c md:Int) (g0 n0 q0 i0 s0 g1 n1 q1 i1 s1 g2 n2 q2 i2 s2:Bool) (m0 m1 m2:Nat) (x0 x1 x2 nn ii X Y xs ys:Int) (r:Bool) (v:Nat) (y:Int) (H0:Tel 21 #[.agg #[.int .i64 E,.int .i64 F],.int .u64 a] (.int .i64 0)) (H1:Tel 21 #[.agg #[.int .i64 E,.int .i64 F],.int .u64 b] (.int .i64 0)) (H2:Tel 21 #[.agg #[.int .i64 E,.int .i64 F],.int .u64 c] (.int .i64 0)) (hm:¬ (4:Int) < md) (HO0:Hid (OpR E F a g0 n0 q0 i0 s0 m0 x0)) (HO1:Hid (OpR E F b g1 n1 q1 i1 s1 m1 x1)) (HO2:Hid (OpR E F c g2 n2 q2 i2 s2 m2 x2)) (HM:Tel 12 #[.agg #[.int .i64 E,.int .i64 F]] (.int .u64 nn)) (HI:Tel 14 #[.agg #[.int .i64 E,.int .i64 F],.bool (!g0 == g1)] (.int .u64 ii)) (HP:Hid (RProds s0 m0 x0 s1 m1 x1 r v y)) (HSm:Hid (∀ (W:World) (A:Option Addr) (N C:Nat) (A':Option Addr) (N' C':Nat),Num W A N v→Num W A' N' m2→Calls Tryz.prog 16 #[.agg #[.int .i64 E,.int .i64 F],.agg #[.bool r,.slice A N C,.int .i64 y],.agg #[.bool s2,.slice A' N' C',.int .i64 x2],.bool (!g0 == g1),.bool g2,.int .u8 md] W fun e w'=>e = .returned (.tuple #[.int .u64 xs,.int .u8 ys])∧Below W.heap.size W w')) (hcase:((n0 || n1 || n2) = true∧X = nn∧Y = fl16 ((n0 && !q0) || (n1 && !q1) || (n2 && !q2)))∨((n0 || n1 || n2) = false∧((i0 = true∧i1 = true∧i2 = true∧(!g2 == (!g0 == g1)) = true∧X = nn∧Y = 16)∨(i0 = true∧i1 = true∧i2 = true∧(!g2 == (!g0 == g1)) = false∧X = ii∧Y = 0)∨(i0 = true∧i1 = true∧i2 = false∧X = ii∧Y = 0)∨(i0 = true∧i1 = false∧m1 = 0∧X = nn∧Y = 16)∨(i0 = true∧i1 = false∧i2 = true∧(!g2 == (!g0 == g1)) = true∧0 < m1∧X = nn∧Y = 16)∨(i0 = true∧i1 = false∧i2 = true∧(!g2 == (!g0 == g1)) = false∧0 < m1∧X = ii∧Y = 0)∨(i0 = true∧i1 = false∧i2 = false∧0 < m1∧X = ii∧Y = 0)∨(i0 = false∧i1 = true∧m0 = 0∧X = nn∧Y = 16)∨(i0 = false∧i1 = true∧i2 = true∧(!g2 == (!g0 == g1)) = true∧0 < m0∧X = nn∧Y = 16)∨(i0 = false∧i1 = true∧i2 = true∧(!g2 == (!g0 == g1)) = false∧0 < m0∧X = ii∧Y = 0)∨(i0 = false∧i1 = true∧i2 = false∧0 < m0∧X = ii∧Y = 0)∨(i0 = false∧i1 = false∧i2 = true∧m0 = 0∧X = c∧Y = 0)∨(i0 = false∧i1 = false∧i2 = false∧m0 = 0∧X = xs∧Y = ys)∨(i0 = false∧i1 = false∧i2 = true∧0 < m0∧X = c∧Y = 0)∨(i0 = false∧i1 = false∧i2 = false∧0 < m0∧X = xs∧Y = ys)))) :
  Calls Tryz.prog 6 #[.agg #[.int .i64 E,.int .i64 F],.int .u64 a,.int .u64 b,.int .u64 c,.int .u8 md] w fun e w'=>e = .returned (.tuple #[.int .u64 X,.int .u8 Y,.int .i64 0])∧Below w.heap.size w w':=by
 have hS:=Rs.begin w
 replace hS:=hS.alloc #[.int .i64 E,.int .i64 F] 23
 try simp only [World.size_alloc] at hS
 go_enter Tryz.func6,Tryz.ntmps6
 go_wp2_with fail
 refine (asked3_2.1 E F md _ a b c H0 H1 H2 (by omega) _ (by have:=heap_alloc_new (w.alloc (.cells #[.int .i64 E,.int .i64 F] 23)) (.cells #[.int .u64 a,.int .u64 b,.int .u64 c] 24); simpa only [World.size_alloc] using this)).mono ?_
 rintro en w1 ⟨rfl,hb1⟩
 have hz1:=hb1.size
 simp only [World.size_alloc] at hz1
 replace hS:=hS.kept (gr_trans (gr_alloc _ _) hb1)
 clear hb1
 go_wp2_with fail
 refine wp_region_any (by kernel_rfl) ?_
 change wpAny _ _ _ _ _ _ _ (World.drew _)
 have hS9:=hS.drew
 have hsW9:(World.drew w1).heap.size = w1.heap.size:=by first|rfl|simp
 generalize World.drew w1 = Wd at hS9 hsW9 ⊢
 obtain ⟨S9,hS9z⟩:∃ x,x = Wd.heap.size:=⟨_,rfl⟩
 have hC9:=Rc.start (bs:=[⟨w.heap.size,#[.int .i64 E,.int .i64 F],23⟩]) hS9 (by simp)
 rw [← hS9z] at hC9
 refine wpAny_inv (fun l act w'=>∃ σ,Sxf2I w E F a b c md g0 n0 q0 i0 s0 g1 n1 q1 i1 s1 g2 n2 q2 i2 s2 m0 m1 m2 x0 x1 x2 S9 l act w' σ) ?_ ?_ _ _ _ _ ?_ ?_
 ·intro l act w' i9 hI9 hi9 hl9
  have hin9:i9 < 15:=by
   by_cases h:i9 < 15
   ·exact h
   ·obtain ⟨⟨⟩,rfl,_⟩:=hI9
    rw [Array.getElem?_eq_none (by simp; omega)] at hl9; cases hl9
  have hcase:i9 = 0∨i9 = 1∨i9 = 2∨i9 = 3∨i9 = 4∨i9 = 5∨i9 = 6∨i9 = 7∨i9 = 8∨i9 = 9∨i9 = 10∨i9 = 11∨i9 = 12∨i9 = 13∨i9 = 14:=by omega
  clear hin9
  obtain ⟨⟨b0,b1,b2,b3,b4,b5,b6,b7,b8,b9,b10,b11,b12,b13,b14,v0,v1,v2,v3,v4,v5,v6,v7,v8,v9,v10,v11,A2,N2,C2,A5,N5,C5,A8,N8,C8,bs9,os9⟩,rfl,rfl,hR⟩:=hI9
  rcases hcase with rfl|rfl|rfl|rfl|rfl|rfl|rfl|rfl|rfl|rfl|rfl|rfl|rfl|rfl|rfl
  ·obtain rfl:b0 = false:=by simpa using hl9
   have hc:=hR.hc
   have c9_0:=hc.st.cellAt (hc.old ⟨w.heap.size,#[.int .i64 E,.int .i64 F],23⟩ (by simp)).1 0 (.int .i64 E) rfl
   have c9_1:=hc.st.cellAt (hc.old ⟨w.heap.size,#[.int .i64 E,.int .i64 F],23⟩ (by simp)).1 1 (.int .i64 F) rfl
   simp only [] at c9_0 c9_1
   refine wpOp_step rfl fun K hK=>?_
   go_simp
   exact hK _ _ ⟨⟨_,_,_,_,_,_,_,_,_,_,_,_,_,_,_,_,_,_,_,_,_,_,_,_,_,_,_,A2,N2,C2,A5,N5,C5,A8,N8,C8,_,_⟩,rfl,rfl,{ hR with hc:=hc,f0:=(fun _=>rfl) }⟩
  ·obtain rfl:b1 = false:=by simpa using hl9
   have hc:=hR.hc
   refine wpOp_step rfl fun K hK=>?_
   go_simp
   exact hK _ _ ⟨⟨_,_,_,_,_,_,_,_,_,_,_,_,_,_,_,_,_,_,_,_,_,_,_,_,_,_,_,A2,N2,C2,A5,N5,C5,A8,N8,C8,_,_⟩,rfl,rfl,{ hR with hc:=hc,f1:=(fun _=>rfl) }⟩
  ·obtain rfl:b2 = false:=by simpa using hl9
   obtain ⟨o9,ho9,hd9⟩:=(mem_ready.1 hi9).2
   cases ho9
   have e0:b0 = true:=hd9 ⟨0,.data⟩ (by simp) rfl
   have e1:b1 = true:=hd9 ⟨1,.data⟩ (by simp) rfl
   subst e0 e1
   have h9:=hR.f0 rfl
   subst h9
   have h9:=hR.f1 rfl
   subst h9
   have hc:=hR.hc
   have HR:=hide hR
   clear hR
   refine wpOp_step rfl fun K hK=>?_
   go_simp
   go_wp2_with fail
   refine (W_oft hc.st (unhide HO0 _ )).mono ?_
   rintro en w9 ⟨a9,n9,c9,rfl,hs9,hz9⟩
   have hR:=unhide HR
   exact hK _ _ ⟨⟨_,_,_,_,_,_,_,_,_,_,_,_,_,_,_,_,_,_,_,_,_,_,_,_,_,_,_,_,_,_,A5,N5,C5,A8,N8,C8,_,_⟩,rfl,rfl,{ hR with hc:=(hc.call hs9 hz9 (fun y hy=>List.mem_cons_of_mem _ hy)),f2:=(fun _=>⟨rfl,List.mem_cons_self ..⟩),f5:=(fun h=>⟨(hR.f5 h).1,List.mem_cons_of_mem _ (hR.f5 h).2⟩),f8:=(fun h=>⟨(hR.f8 h).1,List.mem_cons_of_mem _ (hR.f8 h).2⟩),f12:=(fun h=>Bool.noConfusion (hR.g12_2 h)),g12_2:=(fun _=>rfl) }⟩
  ·obtain rfl:b3 = false:=by simpa using hl9
   have hc:=hR.hc
   have c9_0:=hc.st.cellAt (hc.old ⟨w.heap.size,#[.int .i64 E,.int .i64 F],23⟩ (by simp)).1 0 (.int .i64 E) rfl
   have c9_1:=hc.st.cellAt (hc.old ⟨w.heap.size,#[.int .i64 E,.int .i64 F],23⟩ (by simp)).1 1 (.int .i64 F) rfl
   simp only [] at c9_0 c9_1
   refine wpOp_step rfl fun K hK=>?_
   go_simp
   exact hK _ _ ⟨⟨_,_,_,_,_,_,_,_,_,_,_,_,_,_,_,_,_,_,_,_,_,_,_,_,_,_,_,A2,N2,C2,A5,N5,C5,A8,N8,C8,_,_⟩,rfl,rfl,{ hR with hc:=hc,f3:=(fun _=>rfl) }⟩
  ·obtain rfl:b4 = false:=by simpa using hl9
   have hc:=hR.hc
   refine wpOp_step rfl fun K hK=>?_
   go_simp
   exact hK _ _ ⟨⟨_,_,_,_,_,_,_,_,_,_,_,_,_,_,_,_,_,_,_,_,_,_,_,_,_,_,_,A2,N2,C2,A5,N5,C5,A8,N8,C8,_,_⟩,rfl,rfl,{ hR with hc:=hc,f4:=(fun _=>rfl) }⟩
  ·obtain rfl:b5 = false:=by simpa using hl9
   obtain ⟨o9,ho9,hd9⟩:=(mem_ready.1 hi9).2
   cases ho9
   have e3:b3 = true:=hd9 ⟨3,.data⟩ (by simp) rfl
   have e4:b4 = true:=hd9 ⟨4,.data⟩ (by simp) rfl
   subst e3 e4
   have h9:=hR.f3 rfl
   subst h9
   have h9:=hR.f4 rfl
   subst h9
   have hc:=hR.hc
   have HR:=hide hR
   clear hR
   refine wpOp_step rfl fun K hK=>?_
   go_simp
   go_wp2_with fail
   refine (W_oft hc.st (unhide HO1 _ )).mono ?_
   rintro en w9 ⟨a9,n9,c9,rfl,hs9,hz9⟩
   have hR:=unhide HR
   exact hK _ _ ⟨⟨_,_,_,_,_,_,_,_,_,_,_,_,_,_,_,_,_,_,_,_,_,_,_,_,_,_,_,A2,N2,C2,_,_,_,A8,N8,C8,_,_⟩,rfl,rfl,{ hR with hc:=(hc.call hs9 hz9 (fun y hy=>List.mem_cons_of_mem _ hy)),f2:=(fun h=>⟨(hR.f2 h).1,List.mem_cons_of_mem _ (hR.f2 h).2⟩),f5:=(fun _=>⟨rfl,List.mem_cons_self ..⟩),f8:=(fun h=>⟨(hR.f8 h).1,List.mem_cons_of_mem _ (hR.f8 h).2⟩),f13:=(fun h=>Bool.noConfusion (hR.g13_5 h)),g13_5:=(fun _=>rfl) }⟩
  ·obtain rfl:b6 = false:=by simpa using hl9
   have hc:=hR.hc
   have c9_0:=hc.st.cellAt (hc.old ⟨w.heap.size,#[.int .i64 E,.int .i64 F],23⟩ (by simp)).1 0 (.int .i64 E) rfl
   have c9_1:=hc.st.cellAt (hc.old ⟨w.heap.size,#[.int .i64 E,.int .i64 F],23⟩ (by simp)).1 1 (.int .i64 F) rfl
   simp only [] at c9_0 c9_1
   refine wpOp_step rfl fun K hK=>?_
   go_simp
   exact hK _ _ ⟨⟨_,_,_,_,_,_,_,_,_,_,_,_,_,_,_,_,_,_,_,_,_,_,_,_,_,_,_,A2,N2,C2,A5,N5,C5,A8,N8,C8,_,_⟩,rfl,rfl,{ hR with hc:=hc,f6:=(fun _=>rfl) }⟩
  ·obtain rfl:b7 = false:=by simpa using hl9
   have hc:=hR.hc
   refine wpOp_step rfl fun K hK=>?_
   go_simp
   exact hK _ _ ⟨⟨_,_,_,_,_,_,_,_,_,_,_,_,_,_,_,_,_,_,_,_,_,_,_,_,_,_,_,A2,N2,C2,A5,N5,C5,A8,N8,C8,_,_⟩,rfl,rfl,{ hR with hc:=hc,f7:=(fun _=>rfl) }⟩
  ·obtain rfl:b8 = false:=by simpa using hl9
   obtain ⟨o9,ho9,hd9⟩:=(mem_ready.1 hi9).2
   cases ho9
   have e6:b6 = true:=hd9 ⟨6,.data⟩ (by simp) rfl
   have e7:b7 = true:=hd9 ⟨7,.data⟩ (by simp) rfl
   subst e6 e7
   have h9:=hR.f6 rfl
   subst h9
   have h9:=hR.f7 rfl
   subst h9
   have hc:=hR.hc
   have HR:=hide hR
   clear hR
   refine wpOp_step rfl fun K hK=>?_
   go_simp
   go_wp2_with fail
   refine (W_oft hc.st (unhide HO2 _ )).mono ?_
   rintro en w9 ⟨a9,n9,c9,rfl,hs9,hz9⟩
   have hR:=unhide HR
   exact hK _ _ ⟨⟨_,_,_,_,_,_,_,_,_,_,_,_,_,_,_,_,_,_,_,_,_,_,_,_,_,_,_,A2,N2,C2,A5,N5,C5,_,_,_,_,_⟩,rfl,rfl,{ hR with hc:=(hc.call hs9 hz9 (fun y hy=>List.mem_cons_of_mem _ hy)),f2:=(fun h=>⟨(hR.f2 h).1,List.mem_cons_of_mem _ (hR.f2 h).2⟩),f5:=(fun h=>⟨(hR.f5 h).1,List.mem_cons_of_mem _ (hR.f5 h).2⟩),f8:=(fun _=>⟨rfl,List.mem_cons_self ..⟩),f14:=(fun h=>Bool.noConfusion (hR.g14_8 h)),g14_8:=(fun _=>rfl) }⟩
  ·obtain rfl:b9 = false:=by simpa using hl9
   have hc:=hR.hc
   refine wpOp_step rfl fun K hK=>?_
   go_simp
   exact hK _ _ ⟨⟨_,_,_,_,_,_,_,_,_,_,_,_,_,_,_,_,_,_,_,_,_,_,_,_,_,_,_,A2,N2,C2,A5,N5,C5,A8,N8,C8,_,_⟩,rfl,rfl,{ hR with hc:=(hc.alloc #[.bool false,.bool false,.bool false,.bool false,.bool false,.slice none 0 0,.int .i64 0] 48),f9:=(fun _=>AlN.self rfl hc.sz rfl),f10:=(fun h=>(hR.f10 h).cons _),f11:=(fun h=>(hR.f11 h).cons _),f12:=(fun h=>Bool.noConfusion (hR.g12_9 h)),f13:=(fun h=>(hR.f13 h).cons _),f14:=(fun h=>(hR.f14 h).cons _),d9_10:=(fun _ h=>Ne.symm ((hR.f10 h).ne hc.st)),d9_11:=(fun _ h=>Ne.symm ((hR.f11 h).ne hc.st)),g12_9:=(fun _=>rfl) }⟩
  ·obtain rfl:b10 = false:=by simpa using hl9
   have hc:=hR.hc
   refine wpOp_step rfl fun K hK=>?_
   go_simp
   exact hK _ _ ⟨⟨_,_,_,_,_,_,_,_,_,_,_,_,_,_,_,_,_,_,_,_,_,_,_,_,_,_,_,A2,N2,C2,A5,N5,C5,A8,N8,C8,_,_⟩,rfl,rfl,{ hR with hc:=(hc.alloc #[.bool false,.bool false,.bool false,.bool false,.bool false,.slice none 0 0,.int .i64 0] 48),f9:=(fun h=>(hR.f9 h).cons _),f10:=(fun _=>AlN.self rfl hc.sz rfl),f11:=(fun h=>(hR.f11 h).cons _),f12:=(fun h=>(hR.f12 h).cons _),f13:=(fun h=>Bool.noConfusion (hR.g13_10 h)),f14:=(fun h=>(hR.f14 h).cons _),d9_10:=(fun h _=>(hR.f9 h).ne hc.st),d10_11:=(fun _ h=>Ne.symm ((hR.f11 h).ne hc.st)),g13_10:=(fun _=>rfl) }⟩
  ·obtain rfl:b11 = false:=by simpa using hl9
   have hc:=hR.hc
   refine wpOp_step rfl fun K hK=>?_
   go_simp
   exact hK _ _ ⟨⟨_,_,_,_,_,_,_,_,_,_,_,_,_,_,_,_,_,_,_,_,_,_,_,_,_,_,_,A2,N2,C2,A5,N5,C5,A8,N8,C8,_,_⟩,rfl,rfl,{ hR with hc:=(hc.alloc #[.bool false,.bool false,.bool false,.bool false,.bool false,.slice none 0 0,.int .i64 0] 48),f9:=(fun h=>(hR.f9 h).cons _),f10:=(fun h=>(hR.f10 h).cons _),f11:=(fun _=>AlN.self rfl hc.sz rfl),f12:=(fun h=>(hR.f12 h).cons _),f13:=(fun h=>(hR.f13 h).cons _),f14:=(fun h=>Bool.noConfusion (hR.g14_11 h)),d9_11:=(fun h _=>(hR.f9 h).ne hc.st),d10_11:=(fun h _=>(hR.f10 h).ne hc.st),g14_11:=(fun _=>rfl) }⟩
  ·obtain rfl:b12 = false:=by simpa using hl9
   obtain ⟨o9,ho9,hd9⟩:=(mem_ready.1 hi9).2
   cases ho9
   have e2:b2 = true:=hd9 ⟨2,.data⟩ (by simp) rfl
   have e9:b9 = true:=hd9 ⟨9,.data⟩ (by simp) rfl
   subst e2 e9
   have q2:=hR.f2 rfl
   obtain ⟨h9,q2m⟩:=q2
   subst h9
   have hc:=hR.hc
   obtain ⟨g9,cs9,h9,hg9,hz9,hm9⟩:=hR.f9 rfl
   subst h9
   obtain ⟨y9_0,y9_1,y9_2,y9_3,y9_4,y9_5,y9_6,rfl⟩:∃ y9_0 y9_1 y9_2 y9_3 y9_4 y9_5 y9_6,cs9 = #[y9_0,y9_1,y9_2,y9_3,y9_4,y9_5,y9_6]:=by
    match cs9,hz9 with
    | ⟨[y9_0,y9_1,y9_2,y9_3,y9_4,y9_5,y9_6]⟩,_=>exact ⟨y9_0,y9_1,y9_2,y9_3,y9_4,y9_5,y9_6,rfl⟩
   clear hz9
   have fz9_0:=hc.st.frozen hm9 0
   have cz9_0:=hc.st.cellAt hm9 0 y9_0 rfl
   simp only [] at fz9_0 cz9_0
   have fz9_1:=hc.st.frozen hm9 1
   have cz9_1:=hc.st.cellAt hm9 1 y9_1 rfl
   simp only [] at fz9_1 cz9_1
   have fz9_2:=hc.st.frozen hm9 2
   have cz9_2:=hc.st.cellAt hm9 2 y9_2 rfl
   simp only [] at fz9_2 cz9_2
   have fz9_3:=hc.st.frozen hm9 3
   have cz9_3:=hc.st.cellAt hm9 3 y9_3 rfl
   simp only [] at fz9_3 cz9_3
   have fz9_4:=hc.st.frozen hm9 4
   have cz9_4:=hc.st.cellAt hm9 4 y9_4 rfl
   simp only [] at fz9_4 cz9_4
   have fz9_5:=hc.st.frozen hm9 5
   have cz9_5:=hc.st.cellAt hm9 5 y9_5 rfl
   simp only [] at fz9_5 cz9_5
   have fz9_6:=hc.st.frozen hm9 6
   have cz9_6:=hc.st.cellAt hm9 6 y9_6 rfl
   simp only [] at fz9_6 cz9_6
   have hn9:∀ x,x∈([⟨w.heap.size,#[.int .i64 E,.int .i64 F],23⟩]:List En)→x.b≠g9:=fun x hx=>by have:=(hc.old x hx).2; omega
   refine wpOp_step rfl fun K hK=>?_
   go_simp
   exact hK _ _ ⟨⟨_,_,_,_,_,_,_,_,_,_,_,_,_,_,_,_,_,_,_,_,_,_,_,_,_,_,_,A2,N2,C2,A5,N5,C5,A8,N8,C8,_,_⟩,rfl,rfl,{ hR with hc:=(((((((hc.store hm9 (by have:=hc.w0s; omega) hn9 0 (.bool g0) (by simp)).store (List.mem_cons_self ..) (by have:=hc.w0s; omega) hn9 1 (.bool n0) (by simp)).store (List.mem_cons_self ..) (by have:=hc.w0s; omega) hn9 2 (.bool q0) (by simp)).store (List.mem_cons_self ..) (by have:=hc.w0s; omega) hn9 3 (.bool i0) (by simp)).store (List.mem_cons_self ..) (by have:=hc.w0s; omega) hn9 4 (.bool s0) (by simp)).store (List.mem_cons_self ..) (by have:=hc.w0s; omega) hn9 5 (.slice A2 N2 C2) (by simp)).store (List.mem_cons_self ..) (by have:=hc.w0s; omega) hn9 6 (.int .i64 x0) (by simp)),f9:=(fun _=>⟨g9,_,rfl,hg9,by simp,List.mem_cons_self ..⟩),f10:=(fun h=>((((((((hR.f10 h).but (fun e=>hR.d9_10 rfl h e.symm) _).but (fun e=>hR.d9_10 rfl h e.symm) _).but (fun e=>hR.d9_10 rfl h e.symm) _).but (fun e=>hR.d9_10 rfl h e.symm) _).but (fun e=>hR.d9_10 rfl h e.symm) _).but (fun e=>hR.d9_10 rfl h e.symm) _).but (fun e=>hR.d9_10 rfl h e.symm) _)),f11:=(fun h=>((((((((hR.f11 h).but (fun e=>hR.d9_11 rfl h e.symm) _).but (fun e=>hR.d9_11 rfl h e.symm) _).but (fun e=>hR.d9_11 rfl h e.symm) _).but (fun e=>hR.d9_11 rfl h e.symm) _).but (fun e=>hR.d9_11 rfl h e.symm) _).but (fun e=>hR.d9_11 rfl h e.symm) _).but (fun e=>hR.d9_11 rfl h e.symm) _)),f12:=(fun _=>⟨g9,rfl,hg9,List.mem_cons_self ..⟩),f13:=(fun h=>((((((((hR.f13 h).but (fun e=>hR.d9_10 rfl (hR.g13_10 h) e.symm) _).but (fun e=>hR.d9_10 rfl (hR.g13_10 h) e.symm) _).but (fun e=>hR.d9_10 rfl (hR.g13_10 h) e.symm) _).but (fun e=>hR.d9_10 rfl (hR.g13_10 h) e.symm) _).but (fun e=>hR.d9_10 rfl (hR.g13_10 h) e.symm) _).but (fun e=>hR.d9_10 rfl (hR.g13_10 h) e.symm) _).but (fun e=>hR.d9_10 rfl (hR.g13_10 h) e.symm) _)),f14:=(fun h=>((((((((hR.f14 h).but (fun e=>hR.d9_11 rfl (hR.g14_11 h) e.symm) _).but (fun e=>hR.d9_11 rfl (hR.g14_11 h) e.symm) _).but (fun e=>hR.d9_11 rfl (hR.g14_11 h) e.symm) _).but (fun e=>hR.d9_11 rfl (hR.g14_11 h) e.symm) _).but (fun e=>hR.d9_11 rfl (hR.g14_11 h) e.symm) _).but (fun e=>hR.d9_11 rfl (hR.g14_11 h) e.symm) _).but (fun e=>hR.d9_11 rfl (hR.g14_11 h) e.symm) _)),g12_9:=(fun _=>rfl),g12_2:=(fun _=>rfl) }⟩
  ·obtain rfl:b13 = false:=by simpa using hl9
   obtain ⟨o9,ho9,hd9⟩:=(mem_ready.1 hi9).2
   cases ho9
   have e5:b5 = true:=hd9 ⟨5,.data⟩ (by simp) rfl
   have e10:b10 = true:=hd9 ⟨10,.data⟩ (by simp) rfl
   subst e5 e10
   have q5:=hR.f5 rfl
   obtain ⟨h9,q5m⟩:=q5
   subst h9
   have hc:=hR.hc
   obtain ⟨g9,cs9,h9,hg9,hz9,hm9⟩:=hR.f10 rfl
   subst h9
   obtain ⟨y9_0,y9_1,y9_2,y9_3,y9_4,y9_5,y9_6,rfl⟩:∃ y9_0 y9_1 y9_2 y9_3 y9_4 y9_5 y9_6,cs9 = #[y9_0,y9_1,y9_2,y9_3,y9_4,y9_5,y9_6]:=by
    match cs9,hz9 with
    | ⟨[y9_0,y9_1,y9_2,y9_3,y9_4,y9_5,y9_6]⟩,_=>exact ⟨y9_0,y9_1,y9_2,y9_3,y9_4,y9_5,y9_6,rfl⟩
   clear hz9
   have fz9_0:=hc.st.frozen hm9 0
   have cz9_0:=hc.st.cellAt hm9 0 y9_0 rfl
   simp only [] at fz9_0 cz9_0
   have fz9_1:=hc.st.frozen hm9 1
   have cz9_1:=hc.st.cellAt hm9 1 y9_1 rfl
   simp only [] at fz9_1 cz9_1
   have fz9_2:=hc.st.frozen hm9 2
   have cz9_2:=hc.st.cellAt hm9 2 y9_2 rfl
   simp only [] at fz9_2 cz9_2
   have fz9_3:=hc.st.frozen hm9 3
   have cz9_3:=hc.st.cellAt hm9 3 y9_3 rfl
   simp only [] at fz9_3 cz9_3
   have fz9_4:=hc.st.frozen hm9 4
   have cz9_4:=hc.st.cellAt hm9 4 y9_4 rfl
   simp only [] at fz9_4 cz9_4
   have fz9_5:=hc.st.frozen hm9 5
   have cz9_5:=hc.st.cellAt hm9 5 y9_5 rfl
   simp only [] at fz9_5 cz9_5
   have fz9_6:=hc.st.frozen hm9 6
   have cz9_6:=hc.st.cellAt hm9 6 y9_6 rfl
   simp only [] at fz9_6 cz9_6
   have hn9:∀ x,x∈([⟨w.heap.size,#[.int .i64 E,.int .i64 F],23⟩]:List En)→x.b≠g9:=fun x hx=>by have:=(hc.old x hx).2; omega
   refine wpOp_step rfl fun K hK=>?_
   go_simp
   exact hK _ _ ⟨⟨_,_,_,_,_,_,_,_,_,_,_,_,_,_,_,_,_,_,_,_,_,_,_,_,_,_,_,A2,N2,C2,A5,N5,C5,A8,N8,C8,_,_⟩,rfl,rfl,{ hR with hc:=(((((((hc.store hm9 (by have:=hc.w0s; omega) hn9 0 (.bool g1) (by simp)).store (List.mem_cons_self ..) (by have:=hc.w0s; omega) hn9 1 (.bool n1) (by simp)).store (List.mem_cons_self ..) (by have:=hc.w0s; omega) hn9 2 (.bool q1) (by simp)).store (List.mem_cons_self ..) (by have:=hc.w0s; omega) hn9 3 (.bool i1) (by simp)).store (List.mem_cons_self ..) (by have:=hc.w0s; omega) hn9 4 (.bool s1) (by simp)).store (List.mem_cons_self ..) (by have:=hc.w0s; omega) hn9 5 (.slice A5 N5 C5) (by simp)).store (List.mem_cons_self ..) (by have:=hc.w0s; omega) hn9 6 (.int .i64 x1) (by simp)),f9:=(fun h=>((((((((hR.f9 h).but (fun e=>hR.d9_10 h rfl e) _).but (fun e=>hR.d9_10 h rfl e) _).but (fun e=>hR.d9_10 h rfl e) _).but (fun e=>hR.d9_10 h rfl e) _).but (fun e=>hR.d9_10 h rfl e) _).but (fun e=>hR.d9_10 h rfl e) _).but (fun e=>hR.d9_10 h rfl e) _)),f10:=(fun _=>⟨g9,_,rfl,hg9,by simp,List.mem_cons_self ..⟩),f11:=(fun h=>((((((((hR.f11 h).but (fun e=>hR.d10_11 rfl h e.symm) _).but (fun e=>hR.d10_11 rfl h e.symm) _).but (fun e=>hR.d10_11 rfl h e.symm) _).but (fun e=>hR.d10_11 rfl h e.symm) _).but (fun e=>hR.d10_11 rfl h e.symm) _).but (fun e=>hR.d10_11 rfl h e.symm) _).but (fun e=>hR.d10_11 rfl h e.symm) _)),f12:=(fun h=>((((((((hR.f12 h).but (fun e=>hR.d9_10 (hR.g12_9 h) rfl e) _).but (fun e=>hR.d9_10 (hR.g12_9 h) rfl e) _).but (fun e=>hR.d9_10 (hR.g12_9 h) rfl e) _).but (fun e=>hR.d9_10 (hR.g12_9 h) rfl e) _).but (fun e=>hR.d9_10 (hR.g12_9 h) rfl e) _).but (fun e=>hR.d9_10 (hR.g12_9 h) rfl e) _).but (fun e=>hR.d9_10 (hR.g12_9 h) rfl e) _)),f13:=(fun _=>⟨g9,rfl,hg9,List.mem_cons_self ..⟩),f14:=(fun h=>((((((((hR.f14 h).but (fun e=>hR.d10_11 rfl (hR.g14_11 h) e.symm) _).but (fun e=>hR.d10_11 rfl (hR.g14_11 h) e.symm) _).but (fun e=>hR.d10_11 rfl (hR.g14_11 h) e.symm) _).but (fun e=>hR.d10_11 rfl (hR.g14_11 h) e.symm) _).but (fun e=>hR.d10_11 rfl (hR.g14_11 h) e.symm) _).but (fun e=>hR.d10_11 rfl (hR.g14_11 h) e.symm) _).but (fun e=>hR.d10_11 rfl (hR.g14_11 h) e.symm) _)),g13_10:=(fun _=>rfl),g13_5:=(fun _=>rfl) }⟩
  ·obtain rfl:b14 = false:=by simpa using hl9
   obtain ⟨o9,ho9,hd9⟩:=(mem_ready.1 hi9).2
   cases ho9
   have e8:b8 = true:=hd9 ⟨8,.data⟩ (by simp) rfl
   have e11:b11 = true:=hd9 ⟨11,.data⟩ (by simp) rfl
   subst e8 e11
   have q8:=hR.f8 rfl
   obtain ⟨h9,q8m⟩:=q8
   subst h9
   have hc:=hR.hc
   obtain ⟨g9,cs9,h9,hg9,hz9,hm9⟩:=hR.f11 rfl
   subst h9
   obtain ⟨y9_0,y9_1,y9_2,y9_3,y9_4,y9_5,y9_6,rfl⟩:∃ y9_0 y9_1 y9_2 y9_3 y9_4 y9_5 y9_6,cs9 = #[y9_0,y9_1,y9_2,y9_3,y9_4,y9_5,y9_6]:=by
    match cs9,hz9 with
    | ⟨[y9_0,y9_1,y9_2,y9_3,y9_4,y9_5,y9_6]⟩,_=>exact ⟨y9_0,y9_1,y9_2,y9_3,y9_4,y9_5,y9_6,rfl⟩
   clear hz9
   have fz9_0:=hc.st.frozen hm9 0
   have cz9_0:=hc.st.cellAt hm9 0 y9_0 rfl
   simp only [] at fz9_0 cz9_0
   have fz9_1:=hc.st.frozen hm9 1
   have cz9_1:=hc.st.cellAt hm9 1 y9_1 rfl
   simp only [] at fz9_1 cz9_1
   have fz9_2:=hc.st.frozen hm9 2
   have cz9_2:=hc.st.cellAt hm9 2 y9_2 rfl
   simp only [] at fz9_2 cz9_2
   have fz9_3:=hc.st.frozen hm9 3
   have cz9_3:=hc.st.cellAt hm9 3 y9_3 rfl
   simp only [] at fz9_3 cz9_3
   have fz9_4:=hc.st.frozen hm9 4
   have cz9_4:=hc.st.cellAt hm9 4 y9_4 rfl
   simp only [] at fz9_4 cz9_4
   have fz9_5:=hc.st.frozen hm9 5
   have cz9_5:=hc.st.cellAt hm9 5 y9_5 rfl
   simp only [] at fz9_5 cz9_5
   have fz9_6:=hc.st.frozen hm9 6
   have cz9_6:=hc.st.cellAt hm9 6 y9_6 rfl
   simp only [] at fz9_6 cz9_6
   have hn9:∀ x,x∈([⟨w.heap.size,#[.int .i64 E,.int .i64 F],23⟩]:List En)→x.b≠g9:=fun x hx=>by have:=(hc.old x hx).2; omega
   refine wpOp_step rfl fun K hK=>?_
   go_simp
   exact hK _ _ ⟨⟨_,_,_,_,_,_,_,_,_,_,_,_,_,_,_,_,_,_,_,_,_,_,_,_,_,_,_,A2,N2,C2,A5,N5,C5,A8,N8,C8,_,_⟩,rfl,rfl,{ hR with hc:=(((((((hc.store hm9 (by have:=hc.w0s; omega) hn9 0 (.bool g2) (by simp)).store (List.mem_cons_self ..) (by have:=hc.w0s; omega) hn9 1 (.bool n2) (by simp)).store (List.mem_cons_self ..) (by have:=hc.w0s; omega) hn9 2 (.bool q2) (by simp)).store (List.mem_cons_self ..) (by have:=hc.w0s; omega) hn9 3 (.bool i2) (by simp)).store (List.mem_cons_self ..) (by have:=hc.w0s; omega) hn9 4 (.bool s2) (by simp)).store (List.mem_cons_self ..) (by have:=hc.w0s; omega) hn9 5 (.slice A8 N8 C8) (by simp)).store (List.mem_cons_self ..) (by have:=hc.w0s; omega) hn9 6 (.int .i64 x2) (by simp)),f9:=(fun h=>((((((((hR.f9 h).but (fun e=>hR.d9_11 h rfl e) _).but (fun e=>hR.d9_11 h rfl e) _).but (fun e=>hR.d9_11 h rfl e) _).but (fun e=>hR.d9_11 h rfl e) _).but (fun e=>hR.d9_11 h rfl e) _).but (fun e=>hR.d9_11 h rfl e) _).but (fun e=>hR.d9_11 h rfl e) _)),f10:=(fun h=>((((((((hR.f10 h).but (fun e=>hR.d10_11 h rfl e) _).but (fun e=>hR.d10_11 h rfl e) _).but (fun e=>hR.d10_11 h rfl e) _).but (fun e=>hR.d10_11 h rfl e) _).but (fun e=>hR.d10_11 h rfl e) _).but (fun e=>hR.d10_11 h rfl e) _).but (fun e=>hR.d10_11 h rfl e) _)),f11:=(fun _=>⟨g9,_,rfl,hg9,by simp,List.mem_cons_self ..⟩),f12:=(fun h=>((((((((hR.f12 h).but (fun e=>hR.d9_11 (hR.g12_9 h) rfl e) _).but (fun e=>hR.d9_11 (hR.g12_9 h) rfl e) _).but (fun e=>hR.d9_11 (hR.g12_9 h) rfl e) _).but (fun e=>hR.d9_11 (hR.g12_9 h) rfl e) _).but (fun e=>hR.d9_11 (hR.g12_9 h) rfl e) _).but (fun e=>hR.d9_11 (hR.g12_9 h) rfl e) _).but (fun e=>hR.d9_11 (hR.g12_9 h) rfl e) _)),f13:=(fun h=>((((((((hR.f13 h).but (fun e=>hR.d10_11 (hR.g13_10 h) rfl e) _).but (fun e=>hR.d10_11 (hR.g13_10 h) rfl e) _).but (fun e=>hR.d10_11 (hR.g13_10 h) rfl e) _).but (fun e=>hR.d10_11 (hR.g13_10 h) rfl e) _).but (fun e=>hR.d10_11 (hR.g13_10 h) rfl e) _).but (fun e=>hR.d10_11 (hR.g13_10 h) rfl e) _).but (fun e=>hR.d10_11 (hR.g13_10 h) rfl e) _)),f14:=(fun _=>⟨g9,rfl,hg9,List.mem_cons_self ..⟩),g14_11:=(fun _=>rfl),g14_8:=(fun _=>rfl) }⟩
 ·rintro l act Wq2 ⟨⟨b0,b1,b2,b3,b4,b5,b6,b7,b8,b9,b10,b11,b12,b13,b14,v0,v1,v2,v3,v4,v5,v6,v7,v8,v9,v10,v11,x2_A2,x2_N2,x2_C2,x2_A5,x2_N5,x2_C5,x2_A8,x2_N8,x2_C8,bs9,os9⟩,rfl,rfl,hR⟩ hr9
  obtain ⟨hc,f0,f1,f2,f3,f4,f5,f6,f7,f8,f9,f10,f11,f12,f13,f14,d9_10,d9_11,d10_11,g12_9,g12_2,g13_10,g13_5,g14_11,g14_8⟩:=hR
  have eall:=all_done hr9 (by kernel_rfl) rfl
  obtain rfl:b0 = true:=eall 0 (by decide)
  obtain rfl:b1 = true:=eall 1 (by decide)
  obtain rfl:b2 = true:=eall 2 (by decide)
  obtain rfl:b3 = true:=eall 3 (by decide)
  obtain rfl:b4 = true:=eall 4 (by decide)
  obtain rfl:b5 = true:=eall 5 (by decide)
  obtain rfl:b6 = true:=eall 6 (by decide)
  obtain rfl:b7 = true:=eall 7 (by decide)
  obtain rfl:b8 = true:=eall 8 (by decide)
  obtain rfl:b9 = true:=eall 9 (by decide)
  obtain rfl:b10 = true:=eall 10 (by decide)
  obtain rfl:b11 = true:=eall 11 (by decide)
  obtain rfl:b12 = true:=eall 12 (by decide)
  obtain rfl:b13 = true:=eall 13 (by decide)
  obtain rfl:b14 = true:=eall 14 (by decide)
  clear hr9 eall
  have h9:=f0 rfl
  subst h9
  have h9:=f1 rfl
  subst h9
  obtain ⟨h9,q2m⟩:=f2 rfl
  subst h9
  have h9:=f3 rfl
  subst h9
  have h9:=f4 rfl
  subst h9
  obtain ⟨h9,q5m⟩:=f5 rfl
  subst h9
  have h9:=f6 rfl
  subst h9
  have h9:=f7 rfl
  subst h9
  obtain ⟨h9,q8m⟩:=f8 rfl
  subst h9
  obtain ⟨x2_g9,h9,hg9,hm9⟩:=f12 rfl
  subst h9
  obtain ⟨x2_g10,h9,hg10,hm10⟩:=f13 rfl
  subst h9
  obtain ⟨x2_g11,h9,hg11,hm11⟩:=f14 rfl
  subst h9
  have hbs9:∀ x,x∈([⟨x2_g11,#[.bool g2,.bool n2,.bool q2,.bool i2,.bool s2,.slice x2_A8 x2_N8 x2_C8,.int .i64 x2],48⟩,⟨x2_g10,#[.bool g1,.bool n1,.bool q1,.bool i1,.bool s1,.slice x2_A5 x2_N5 x2_C5,.int .i64 x1],48⟩,⟨x2_g9,#[.bool g0,.bool n0,.bool q0,.bool i0,.bool s0,.slice x2_A2 x2_N2 x2_C2,.int .i64 x0],48⟩,⟨w.heap.size,#[.int .i64 E,.int .i64 F],23⟩]:List En)→x∈bs9:=by
   intro x hx
   rcases List.mem_cons.1 hx with rfl|hx
   ·exact hm11
   rcases List.mem_cons.1 hx with rfl|hx
   ·exact hm10
   rcases List.mem_cons.1 hx with rfl|hx
   ·exact hm9
   rcases List.mem_cons.1 hx with rfl|hx
   ·exact (hc.old _ (by simp)).1
   exact absurd hx List.not_mem_nil
  have hos9:∀ x,x∈([(x2_A2,x2_N2,x2_C2,m0),(x2_A5,x2_N5,x2_C5,m1),(x2_A8,x2_N8,x2_C8,m2)]:Os)→x∈os9:=by
   intro x hx
   rcases List.mem_cons.1 hx with rfl|hx
   ·exact q2m
   rcases List.mem_cons.1 hx with rfl|hx
   ·exact q5m
   rcases List.mem_cons.1 hx with rfl|hx
   ·exact q8m
   exact absurd hx List.not_mem_nil
  have hS:=hc.st.sub hbs9 (fun x hx=>hx) hos9
  have hsz9:=hc.sz
  rw [hS9z,hsW9] at hsz9
  have hlx2_g9:=hg9
  rw [hS9z,hsW9] at hlx2_g9
  have hux2_g9:=block_lt (hc.st.bx _ hm9).1
  simp only [] at hux2_g9
  have hlx2_g10:=hg10
  rw [hS9z,hsW9] at hlx2_g10
  have hux2_g10:=block_lt (hc.st.bx _ hm10).1
  simp only [] at hux2_g10
  have hlx2_g11:=hg11
  rw [hS9z,hsW9] at hlx2_g11
  have hux2_g11:=block_lt (hc.st.bx _ hm11).1
  simp only [] at hux2_g11
  have hnx2_9_10:x2_g9≠x2_g10:=fun e9=>d9_10 rfl rfl (by rw [e9])
  have hnx2_9_11:x2_g9≠x2_g11:=fun e9=>d9_11 rfl rfl (by rw [e9])
  have hnx2_10_11:x2_g10≠x2_g11:=fun e9=>d10_11 rfl rfl (by rw [e9])
  clear hbs9 hos9 hc f0 f1 f2 f3 f4 f5 f6 f7 f8 f9 f10 f11 f12 f13 f14 d9_10 d9_11 d10_11 g12_9 g12_2 g13_10 g13_5 g14_11 g14_8
  clear q2m q5m q8m hm9 hm10 hm11 hg9 hg10 hg11
  have hz2:=hsz9
  clear hsz9 hS9z hS9 hC9 hsW9
  obtain ⟨⟨k0_0,k0_1,k0_2,k0_3,k0_4,k0_5,k0_6,-⟩,z0⟩:=hS.cz ⟨x2_g11,#[.bool g2,.bool n2,.bool q2,.bool i2,.bool s2,.slice x2_A8 x2_N8 x2_C8,.int .i64 x2],48⟩ (by simp)
  have z0_0:=z0 0
  have z0_1:=z0 1
  have z0_2:=z0 2
  have z0_3:=z0 3
  have z0_4:=z0 4
  have z0_5:=z0 5
  have z0_6:=z0 6
  clear z0
  obtain ⟨⟨k1_0,k1_1,k1_2,k1_3,k1_4,k1_5,k1_6,-⟩,z1⟩:=hS.cz ⟨x2_g10,#[.bool g1,.bool n1,.bool q1,.bool i1,.bool s1,.slice x2_A5 x2_N5 x2_C5,.int .i64 x1],48⟩ (by simp)
  have z1_0:=z1 0
  have z1_1:=z1 1
  have z1_2:=z1 2
  have z1_3:=z1 3
  have z1_4:=z1 4
  have z1_5:=z1 5
  have z1_6:=z1 6
  clear z1
  obtain ⟨⟨k2_0,k2_1,k2_2,k2_3,k2_4,k2_5,k2_6,-⟩,z2⟩:=hS.cz ⟨x2_g9,#[.bool g0,.bool n0,.bool q0,.bool i0,.bool s0,.slice x2_A2 x2_N2 x2_C2,.int .i64 x0],48⟩ (by simp)
  have z2_0:=z2 0
  have z2_1:=z2 1
  have z2_2:=z2 2
  have z2_3:=z2 3
  have z2_4:=z2 4
  have z2_5:=z2 5
  have z2_6:=z2 6
  clear z2
  obtain ⟨⟨k3_0,k3_1,-⟩,z3⟩:=hS.cz ⟨w.heap.size,#[.int .i64 E,.int .i64 F],23⟩ (by simp)
  have z3_0:=z3 0
  have z3_1:=z3 1
  clear z3
  simp only [] at k0_0 z0_0 k0_1 z0_1 k0_2 z0_2 k0_3 z0_3 k0_4 z0_4 k0_5 z0_5 k0_6 z0_6 k1_0 z1_0 k1_1 z1_1 k1_2 z1_2 k1_3 z1_3 k1_4 z1_4 k1_5 z1_5 k1_6 z1_6 k2_0 z2_0 k2_1 z2_1 k2_2 z2_2 k2_3 z2_3 k2_4 z2_4 k2_5 z2_5 k2_6 z2_6 k3_0 z3_0 k3_1 z3_1
  go_wp2_with fail
  refine (nans3_of _ 0 _ n0 q0 n1 q1 n2 q2 (Nl3.made (Nat.zero_le _) rfl rfl rfl rfl rfl rfl)).mono ?_
  rintro en w9 ⟨rfl,hb9⟩
  replace hS:=hS.kept (gr_trans (gr_alloc _ _) hb9)
  clear hb9
  clear k0_0 z0_0 k0_1 z0_1 k0_2 z0_2 k0_3 z0_3 k0_4 z0_4 k0_5 z0_5 k0_6 z0_6 k1_0 z1_0 k1_1 z1_1 k1_2 z1_2 k1_3 z1_3 k1_4 z1_4 k1_5 z1_5 k1_6 z1_6 k2_0 z2_0 k2_1 z2_1 k2_2 z2_2 k2_3 z2_3 k2_4 z2_4 k2_5 z2_5 k2_6 z2_6 k3_0 z3_0 k3_1 z3_1
  have hF:Fs w w9 [⟨x2_g11,#[.bool g2,.bool n2,.bool q2,.bool i2,.bool s2,.slice x2_A8 x2_N8 x2_C8,.int .i64 x2],48⟩,⟨x2_g10,#[.bool g1,.bool n1,.bool q1,.bool i1,.bool s1,.slice x2_A5 x2_N5 x2_C5,.int .i64 x1],48⟩,⟨x2_g9,#[.bool g0,.bool n0,.bool q0,.bool i0,.bool s0,.slice x2_A2 x2_N2 x2_C2,.int .i64 x0],48⟩,⟨w.heap.size,#[.int .i64 E,.int .i64 F],23⟩]:=⟨fun x hx=>(hS.bx x hx).1,hS.fr⟩
  have G0:Hid (Num w9 x2_A2 x2_N2 m0):=hide (hS.ow (x2_A2,x2_N2,x2_C2,m0) (by simp)).num
  have G1:Hid (Num w9 x2_A5 x2_N5 m1):=hide (hS.ow (x2_A5,x2_N5,x2_C5,m1) (by simp)).num
  have G2:Hid (Num w9 x2_A8 x2_N8 m2):=hide (hS.ow (x2_A8,x2_N8,x2_C8,m2) (by simp)).num
  clear hS
  have hS:=hF
  clear hF
  rcases hcase with ⟨hr,rfl,rfl⟩|⟨hr,hcase⟩
  ·skip
   obtain ⟨⟨ya,yb,yc,yd,ye,yf,yg,-⟩,⟨yh,yi,yj,yk,yl,ym,yn,-⟩,⟨yo,yp,yq,yr,yt,yu,yv,-⟩,⟨yw,yx,-⟩,-⟩:=hS.cells
   rw [hr]
   clear G0 G1 G2
   go_wp2_with fail
   refine (HM _).mono ?_
   rintro e w10 ⟨rfl,hb10⟩
   replace hS:=hS.kept hb10
   clear ya yb yc yd ye yf yg yh yi yj yk yl ym yn yo yp yq yr yt yu yv yw yx
   obtain ⟨⟨yy,yz,y0,y1,y2,y3,y4,-⟩,⟨y5,y6,y7,y8,y9,yba,ybb,-⟩,⟨ybc,ybd,ybe,ybf,ybg,ybh,ybi,-⟩,⟨ybj,ybk,-⟩,-⟩:=hS.cells
   go_wp2
   go_ret3
   exact ⟨rfl,hS.fr⟩
  ·obtain ⟨⟨rfl,rfl⟩,rfl⟩:(n0 = false∧n1 = false)∧n2 = false:=by simpa using hr
   clear hr
   rcases hcase with ⟨rfl,rfl,rfl,hg,rfl,rfl⟩|⟨rfl,rfl,rfl,hg,rfl,rfl⟩|⟨rfl,rfl,rfl,rfl,rfl⟩|⟨rfl,rfl,h1,rfl,rfl⟩|⟨rfl,rfl,rfl,hg,h1,rfl,rfl⟩|⟨rfl,rfl,rfl,hg,h1,rfl,rfl⟩|⟨rfl,rfl,rfl,h1,rfl,rfl⟩|⟨rfl,rfl,h0,rfl,rfl⟩|⟨rfl,rfl,rfl,hg,h0,rfl,rfl⟩|⟨rfl,rfl,rfl,hg,h0,rfl,rfl⟩|⟨rfl,rfl,rfl,h0,rfl,rfl⟩|⟨rfl,rfl,rfl,h0,rfl,rfl⟩|⟨rfl,rfl,rfl,h0,rfl,rfl⟩|⟨rfl,rfl,rfl,h0,rfl,rfl⟩|⟨rfl,rfl,rfl,h0,rfl,rfl⟩
   ·skip
    obtain ⟨⟨ya,yb,yc,yd,ye,yf,yg,-⟩,⟨yh,yi,yj,yk,yl,ym,yn,-⟩,⟨yo,yp,yq,yr,yt,yu,yv,-⟩,⟨yw,yx,-⟩,-⟩:=hS.cells
    clear G0 G1 G2
    go_wp2_with fail
    refine (xnought_i _ _ _ _ _ _ _ _).mono ?_
    rintro e w10 ⟨rfl,hb10⟩
    replace hS:=hS.kept hb10
    clear ya yb yc yd ye yf yg yh yi yj yk yl ym yn yo yp yq yr yt yu yv yw yx
    obtain ⟨⟨yy,yz,y0,y1,y2,y3,y4,-⟩,⟨y5,y6,y7,y8,y9,yba,ybb,-⟩,⟨ybc,ybd,ybe,ybf,ybg,ybh,ybi,-⟩,⟨ybj,ybk,-⟩,-⟩:=hS.cells
    go_wp2_with fail
    refine (xnought_i _ _ _ _ _ _ _ _).mono ?_
    rintro e w11 ⟨rfl,hb11⟩
    replace hS:=hS.kept hb11
    clear yy yz y0 y1 y2 y3 y4 y5 y6 y7 y8 y9 yba ybb ybc ybd ybe ybf ybg ybh ybi ybj ybk
    obtain ⟨⟨ybl,ybm,ybn,ybo,ybp,ybq,ybr,-⟩,⟨ybs,ybt,ybu,ybv,ybw,ybx,yby,-⟩,⟨ybz,yb0,yb1,yb2,yb3,yb4,yb5,-⟩,⟨yb6,yb7,-⟩,-⟩:=hS.cells
    go_wp2_with fail
    refine (HM _).mono ?_
    rintro e w12 ⟨rfl,hb12⟩
    replace hS:=hS.kept hb12
    clear ybl ybm ybn ybo ybp ybq ybr ybs ybt ybu ybv ybw ybx yby ybz yb0 yb1 yb2 yb3 yb4 yb5 yb6 yb7
    obtain ⟨⟨yb8,yb9,yca,ycb,ycc,ycd,yce,-⟩,⟨ycf,ycg,ych,yci,ycj,yck,ycl,-⟩,⟨ycm,ycn,yco,ycp,ycq,ycr,ycs,-⟩,⟨yct,ycu,-⟩,-⟩:=hS.cells
    go_wp2
    go_ret3
    exact ⟨rfl,hS.fr⟩
   ·skip
    obtain ⟨⟨ya,yb,yc,yd,ye,yf,yg,-⟩,⟨yh,yi,yj,yk,yl,ym,yn,-⟩,⟨yo,yp,yq,yr,yt,yu,yv,-⟩,⟨yw,yx,-⟩,-⟩:=hS.cells
    clear G0 G1 G2
    go_wp2_with fail
    refine (xnought_i _ _ _ _ _ _ _ _).mono ?_
    rintro e w10 ⟨rfl,hb10⟩
    replace hS:=hS.kept hb10
    clear ya yb yc yd ye yf yg yh yi yj yk yl ym yn yo yp yq yr yt yu yv yw yx
    obtain ⟨⟨yy,yz,y0,y1,y2,y3,y4,-⟩,⟨y5,y6,y7,y8,y9,yba,ybb,-⟩,⟨ybc,ybd,ybe,ybf,ybg,ybh,ybi,-⟩,⟨ybj,ybk,-⟩,-⟩:=hS.cells
    go_wp2_with fail
    refine (xnought_i _ _ _ _ _ _ _ _).mono ?_
    rintro e w11 ⟨rfl,hb11⟩
    replace hS:=hS.kept hb11
    clear yy yz y0 y1 y2 y3 y4 y5 y6 y7 y8 y9 yba ybb ybc ybd ybe ybf ybg ybh ybi ybj ybk
    obtain ⟨⟨ybl,ybm,ybn,ybo,ybp,ybq,ybr,-⟩,⟨ybs,ybt,ybu,ybv,ybw,ybx,yby,-⟩,⟨ybz,yb0,yb1,yb2,yb3,yb4,yb5,-⟩,⟨yb6,yb7,-⟩,-⟩:=hS.cells
    go_wp2_with fail
    refine (HI _).mono ?_
    rintro e w12 ⟨rfl,hb12⟩
    replace hS:=hS.kept hb12
    clear ybl ybm ybn ybo ybp ybq ybr ybs ybt ybu ybv ybw ybx yby ybz yb0 yb1 yb2 yb3 yb4 yb5 yb6 yb7
    obtain ⟨⟨yb8,yb9,yca,ycb,ycc,ycd,yce,-⟩,⟨ycf,ycg,ych,yci,ycj,yck,ycl,-⟩,⟨ycm,ycn,yco,ycp,ycq,ycr,ycs,-⟩,⟨yct,ycu,-⟩,-⟩:=hS.cells
    go_wp2
    go_ret3
    exact ⟨rfl,hS.fr⟩
   ·skip
    obtain ⟨⟨ya,yb,yc,yd,ye,yf,yg,-⟩,⟨yh,yi,yj,yk,yl,ym,yn,-⟩,⟨yo,yp,yq,yr,yt,yu,yv,-⟩,⟨yw,yx,-⟩,-⟩:=hS.cells
    clear G0 G1 G2
    go_wp2_with fail
    refine (xnought_i _ _ _ _ _ _ _ _).mono ?_
    rintro e w10 ⟨rfl,hb10⟩
    replace hS:=hS.kept hb10
    clear ya yb yc yd ye yf yg yh yi yj yk yl ym yn yo yp yq yr yt yu yv yw yx
    obtain ⟨⟨yy,yz,y0,y1,y2,y3,y4,-⟩,⟨y5,y6,y7,y8,y9,yba,ybb,-⟩,⟨ybc,ybd,ybe,ybf,ybg,ybh,ybi,-⟩,⟨ybj,ybk,-⟩,-⟩:=hS.cells
    go_wp2_with fail
    refine (xnought_i _ _ _ _ _ _ _ _).mono ?_
    rintro e w11 ⟨rfl,hb11⟩
    replace hS:=hS.kept hb11
    clear yy yz y0 y1 y2 y3 y4 y5 y6 y7 y8 y9 yba ybb ybc ybd ybe ybf ybg ybh ybi ybj ybk
    obtain ⟨⟨ybl,ybm,ybn,ybo,ybp,ybq,ybr,-⟩,⟨ybs,ybt,ybu,ybv,ybw,ybx,yby,-⟩,⟨ybz,yb0,yb1,yb2,yb3,yb4,yb5,-⟩,⟨yb6,yb7,-⟩,-⟩:=hS.cells
    go_wp2_with fail
    refine (HI _).mono ?_
    rintro e w12 ⟨rfl,hb12⟩
    replace hS:=hS.kept hb12
    clear ybl ybm ybn ybo ybp ybq ybr ybs ybt ybu ybv ybw ybx yby ybz yb0 yb1 yb2 yb3 yb4 yb5 yb6 yb7
    obtain ⟨⟨yb8,yb9,yca,ycb,ycc,ycd,yce,-⟩,⟨ycf,ycg,ych,yci,ycj,yck,ycl,-⟩,⟨ycm,ycn,yco,ycp,ycq,ycr,ycs,-⟩,⟨yct,ycu,-⟩,-⟩:=hS.cells
    go_wp2
    go_ret3
    exact ⟨rfl,hS.fr⟩
   ·skip
    obtain ⟨⟨ya,yb,yc,yd,ye,yf,yg,-⟩,⟨yh,yi,yj,yk,yl,ym,yn,-⟩,⟨yo,yp,yq,yr,yt,yu,yv,-⟩,⟨yw,yx,-⟩,-⟩:=hS.cells
    have hN1:(((x2_N5:Nat):Int) == 0) = true:=(by have:=(unhide G1).zero.2 h1; simp [this])
    clear G0 G1 G2
    go_wp2_with fail
    refine (xnought_z _ _ _ _ _ _ _ hN1 _).mono ?_
    rintro e w10 ⟨rfl,hb10⟩
    replace hS:=hS.kept hb10
    clear ya yb yc yd ye yf yg yh yi yj yk yl ym yn yo yp yq yr yt yu yv yw yx
    obtain ⟨⟨yy,yz,y0,y1,y2,y3,y4,-⟩,⟨y5,y6,y7,y8,y9,yba,ybb,-⟩,⟨ybc,ybd,ybe,ybf,ybg,ybh,ybi,-⟩,⟨ybj,ybk,-⟩,-⟩:=hS.cells
    go_wp2_with fail
    refine (HM _).mono ?_
    rintro e w11 ⟨rfl,hb11⟩
    replace hS:=hS.kept hb11
    clear yy yz y0 y1 y2 y3 y4 y5 y6 y7 y8 y9 yba ybb ybc ybd ybe ybf ybg ybh ybi ybj ybk
    obtain ⟨⟨ybl,ybm,ybn,ybo,ybp,ybq,ybr,-⟩,⟨ybs,ybt,ybu,ybv,ybw,ybx,yby,-⟩,⟨ybz,yb0,yb1,yb2,yb3,yb4,yb5,-⟩,⟨yb6,yb7,-⟩,-⟩:=hS.cells
    go_wp2
    go_ret3
    exact ⟨rfl,hS.fr⟩
   ·skip
    obtain ⟨⟨ya,yb,yc,yd,ye,yf,yg,-⟩,⟨yh,yi,yj,yk,yl,ym,yn,-⟩,⟨yo,yp,yq,yr,yt,yu,yv,-⟩,⟨yw,yx,-⟩,-⟩:=hS.cells
    have hN1:(((x2_N5:Nat):Int) == 0) = false:=(ne0 (unhide G1) h1)
    clear G0 G1 G2
    go_wp2_with fail
    refine (xnought_n _ _ _ _ _ _ _ hN1 _).mono ?_
    rintro e w10 ⟨rfl,hb10⟩
    replace hS:=hS.kept hb10
    clear ya yb yc yd ye yf yg yh yi yj yk yl ym yn yo yp yq yr yt yu yv yw yx
    obtain ⟨⟨yy,yz,y0,y1,y2,y3,y4,-⟩,⟨y5,y6,y7,y8,y9,yba,ybb,-⟩,⟨ybc,ybd,ybe,ybf,ybg,ybh,ybi,-⟩,⟨ybj,ybk,-⟩,-⟩:=hS.cells
    go_wp2_with fail
    refine (xnought_i _ _ _ _ _ _ _ _).mono ?_
    rintro e w11 ⟨rfl,hb11⟩
    replace hS:=hS.kept hb11
    clear yy yz y0 y1 y2 y3 y4 y5 y6 y7 y8 y9 yba ybb ybc ybd ybe ybf ybg ybh ybi ybj ybk
    obtain ⟨⟨ybl,ybm,ybn,ybo,ybp,ybq,ybr,-⟩,⟨ybs,ybt,ybu,ybv,ybw,ybx,yby,-⟩,⟨ybz,yb0,yb1,yb2,yb3,yb4,yb5,-⟩,⟨yb6,yb7,-⟩,-⟩:=hS.cells
    go_wp2_with fail
    refine (HM _).mono ?_
    rintro e w12 ⟨rfl,hb12⟩
    replace hS:=hS.kept hb12
    clear ybl ybm ybn ybo ybp ybq ybr ybs ybt ybu ybv ybw ybx yby ybz yb0 yb1 yb2 yb3 yb4 yb5 yb6 yb7
    obtain ⟨⟨yb8,yb9,yca,ycb,ycc,ycd,yce,-⟩,⟨ycf,ycg,ych,yci,ycj,yck,ycl,-⟩,⟨ycm,ycn,yco,ycp,ycq,ycr,ycs,-⟩,⟨yct,ycu,-⟩,-⟩:=hS.cells
    go_wp2
    go_ret3
    exact ⟨rfl,hS.fr⟩
   ·skip
    obtain ⟨⟨ya,yb,yc,yd,ye,yf,yg,-⟩,⟨yh,yi,yj,yk,yl,ym,yn,-⟩,⟨yo,yp,yq,yr,yt,yu,yv,-⟩,⟨yw,yx,-⟩,-⟩:=hS.cells
    have hN1:(((x2_N5:Nat):Int) == 0) = false:=(ne0 (unhide G1) h1)
    clear G0 G1 G2
    go_wp2_with fail
    refine (xnought_n _ _ _ _ _ _ _ hN1 _).mono ?_
    rintro e w10 ⟨rfl,hb10⟩
    replace hS:=hS.kept hb10
    clear ya yb yc yd ye yf yg yh yi yj yk yl ym yn yo yp yq yr yt yu yv yw yx
    obtain ⟨⟨yy,yz,y0,y1,y2,y3,y4,-⟩,⟨y5,y6,y7,y8,y9,yba,ybb,-⟩,⟨ybc,ybd,ybe,ybf,ybg,ybh,ybi,-⟩,⟨ybj,ybk,-⟩,-⟩:=hS.cells
    go_wp2_with fail
    refine (xnought_i _ _ _ _ _ _ _ _).mono ?_
    rintro e w11 ⟨rfl,hb11⟩
    replace hS:=hS.kept hb11
    clear yy yz y0 y1 y2 y3 y4 y5 y6 y7 y8 y9 yba ybb ybc ybd ybe ybf ybg ybh ybi ybj ybk
    obtain ⟨⟨ybl,ybm,ybn,ybo,ybp,ybq,ybr,-⟩,⟨ybs,ybt,ybu,ybv,ybw,ybx,yby,-⟩,⟨ybz,yb0,yb1,yb2,yb3,yb4,yb5,-⟩,⟨yb6,yb7,-⟩,-⟩:=hS.cells
    go_wp2_with fail
    refine (HI _).mono ?_
    rintro e w12 ⟨rfl,hb12⟩
    replace hS:=hS.kept hb12
    clear ybl ybm ybn ybo ybp ybq ybr ybs ybt ybu ybv ybw ybx yby ybz yb0 yb1 yb2 yb3 yb4 yb5 yb6 yb7
    obtain ⟨⟨yb8,yb9,yca,ycb,ycc,ycd,yce,-⟩,⟨ycf,ycg,ych,yci,ycj,yck,ycl,-⟩,⟨ycm,ycn,yco,ycp,ycq,ycr,ycs,-⟩,⟨yct,ycu,-⟩,-⟩:=hS.cells
    go_wp2
    go_ret3
    exact ⟨rfl,hS.fr⟩
   ·skip
    obtain ⟨⟨ya,yb,yc,yd,ye,yf,yg,-⟩,⟨yh,yi,yj,yk,yl,ym,yn,-⟩,⟨yo,yp,yq,yr,yt,yu,yv,-⟩,⟨yw,yx,-⟩,-⟩:=hS.cells
    have hN1:(((x2_N5:Nat):Int) == 0) = false:=(ne0 (unhide G1) h1)
    clear G0 G1 G2
    go_wp2_with fail
    refine (xnought_n _ _ _ _ _ _ _ hN1 _).mono ?_
    rintro e w10 ⟨rfl,hb10⟩
    replace hS:=hS.kept hb10
    clear ya yb yc yd ye yf yg yh yi yj yk yl ym yn yo yp yq yr yt yu yv yw yx
    obtain ⟨⟨yy,yz,y0,y1,y2,y3,y4,-⟩,⟨y5,y6,y7,y8,y9,yba,ybb,-⟩,⟨ybc,ybd,ybe,ybf,ybg,ybh,ybi,-⟩,⟨ybj,ybk,-⟩,-⟩:=hS.cells
    go_wp2_with fail
    refine (xnought_i _ _ _ _ _ _ _ _).mono ?_
    rintro e w11 ⟨rfl,hb11⟩
    replace hS:=hS.kept hb11
    clear yy yz y0 y1 y2 y3 y4 y5 y6 y7 y8 y9 yba ybb ybc ybd ybe ybf ybg ybh ybi ybj ybk
    obtain ⟨⟨ybl,ybm,ybn,ybo,ybp,ybq,ybr,-⟩,⟨ybs,ybt,ybu,ybv,ybw,ybx,yby,-⟩,⟨ybz,yb0,yb1,yb2,yb3,yb4,yb5,-⟩,⟨yb6,yb7,-⟩,-⟩:=hS.cells
    go_wp2_with fail
    refine (HI _).mono ?_
    rintro e w12 ⟨rfl,hb12⟩
    replace hS:=hS.kept hb12
    clear ybl ybm ybn ybo ybp ybq ybr ybs ybt ybu ybv ybw ybx yby ybz yb0 yb1 yb2 yb3 yb4 yb5 yb6 yb7
    obtain ⟨⟨yb8,yb9,yca,ycb,ycc,ycd,yce,-⟩,⟨ycf,ycg,ych,yci,ycj,yck,ycl,-⟩,⟨ycm,ycn,yco,ycp,ycq,ycr,ycs,-⟩,⟨yct,ycu,-⟩,-⟩:=hS.cells
    go_wp2
    go_ret3
    exact ⟨rfl,hS.fr⟩
   ·skip
    obtain ⟨⟨ya,yb,yc,yd,ye,yf,yg,-⟩,⟨yh,yi,yj,yk,yl,ym,yn,-⟩,⟨yo,yp,yq,yr,yt,yu,yv,-⟩,⟨yw,yx,-⟩,-⟩:=hS.cells
    have hN0:(((x2_N2:Nat):Int) == 0) = true:=(by have:=(unhide G0).zero.2 h0; simp [this])
    clear G0 G1 G2
    go_wp2_with fail
    refine (xnought_z _ _ _ _ _ _ _ hN0 _).mono ?_
    rintro e w10 ⟨rfl,hb10⟩
    replace hS:=hS.kept hb10
    clear ya yb yc yd ye yf yg yh yi yj yk yl ym yn yo yp yq yr yt yu yv yw yx
    obtain ⟨⟨yy,yz,y0,y1,y2,y3,y4,-⟩,⟨y5,y6,y7,y8,y9,yba,ybb,-⟩,⟨ybc,ybd,ybe,ybf,ybg,ybh,ybi,-⟩,⟨ybj,ybk,-⟩,-⟩:=hS.cells
    go_wp2_with fail
    refine (HM _).mono ?_
    rintro e w11 ⟨rfl,hb11⟩
    replace hS:=hS.kept hb11
    clear yy yz y0 y1 y2 y3 y4 y5 y6 y7 y8 y9 yba ybb ybc ybd ybe ybf ybg ybh ybi ybj ybk
    obtain ⟨⟨ybl,ybm,ybn,ybo,ybp,ybq,ybr,-⟩,⟨ybs,ybt,ybu,ybv,ybw,ybx,yby,-⟩,⟨ybz,yb0,yb1,yb2,yb3,yb4,yb5,-⟩,⟨yb6,yb7,-⟩,-⟩:=hS.cells
    go_wp2
    go_ret3
    exact ⟨rfl,hS.fr⟩
   ·skip
    obtain ⟨⟨ya,yb,yc,yd,ye,yf,yg,-⟩,⟨yh,yi,yj,yk,yl,ym,yn,-⟩,⟨yo,yp,yq,yr,yt,yu,yv,-⟩,⟨yw,yx,-⟩,-⟩:=hS.cells
    have hN0:(((x2_N2:Nat):Int) == 0) = false:=(ne0 (unhide G0) h0)
    clear G0 G1 G2
    go_wp2_with fail
    refine (xnought_n _ _ _ _ _ _ _ hN0 _).mono ?_
    rintro e w10 ⟨rfl,hb10⟩
    replace hS:=hS.kept hb10
    clear ya yb yc yd ye yf yg yh yi yj yk yl ym yn yo yp yq yr yt yu yv yw yx
    obtain ⟨⟨yy,yz,y0,y1,y2,y3,y4,-⟩,⟨y5,y6,y7,y8,y9,yba,ybb,-⟩,⟨ybc,ybd,ybe,ybf,ybg,ybh,ybi,-⟩,⟨ybj,ybk,-⟩,-⟩:=hS.cells
    go_wp2_with fail
    refine (HM _).mono ?_
    rintro e w11 ⟨rfl,hb11⟩
    replace hS:=hS.kept hb11
    clear yy yz y0 y1 y2 y3 y4 y5 y6 y7 y8 y9 yba ybb ybc ybd ybe ybf ybg ybh ybi ybj ybk
    obtain ⟨⟨ybl,ybm,ybn,ybo,ybp,ybq,ybr,-⟩,⟨ybs,ybt,ybu,ybv,ybw,ybx,yby,-⟩,⟨ybz,yb0,yb1,yb2,yb3,yb4,yb5,-⟩,⟨yb6,yb7,-⟩,-⟩:=hS.cells
    go_wp2
    go_ret3
    exact ⟨rfl,hS.fr⟩
   ·skip
    obtain ⟨⟨ya,yb,yc,yd,ye,yf,yg,-⟩,⟨yh,yi,yj,yk,yl,ym,yn,-⟩,⟨yo,yp,yq,yr,yt,yu,yv,-⟩,⟨yw,yx,-⟩,-⟩:=hS.cells
    have hN0:(((x2_N2:Nat):Int) == 0) = false:=(ne0 (unhide G0) h0)
    clear G0 G1 G2
    go_wp2_with fail
    refine (xnought_n _ _ _ _ _ _ _ hN0 _).mono ?_
    rintro e w10 ⟨rfl,hb10⟩
    replace hS:=hS.kept hb10
    clear ya yb yc yd ye yf yg yh yi yj yk yl ym yn yo yp yq yr yt yu yv yw yx
    obtain ⟨⟨yy,yz,y0,y1,y2,y3,y4,-⟩,⟨y5,y6,y7,y8,y9,yba,ybb,-⟩,⟨ybc,ybd,ybe,ybf,ybg,ybh,ybi,-⟩,⟨ybj,ybk,-⟩,-⟩:=hS.cells
    go_wp2_with fail
    refine (HI _).mono ?_
    rintro e w11 ⟨rfl,hb11⟩
    replace hS:=hS.kept hb11
    clear yy yz y0 y1 y2 y3 y4 y5 y6 y7 y8 y9 yba ybb ybc ybd ybe ybf ybg ybh ybi ybj ybk
    obtain ⟨⟨ybl,ybm,ybn,ybo,ybp,ybq,ybr,-⟩,⟨ybs,ybt,ybu,ybv,ybw,ybx,yby,-⟩,⟨ybz,yb0,yb1,yb2,yb3,yb4,yb5,-⟩,⟨yb6,yb7,-⟩,-⟩:=hS.cells
    go_wp2
    go_ret3
    exact ⟨rfl,hS.fr⟩
   ·skip
    obtain ⟨⟨ya,yb,yc,yd,ye,yf,yg,-⟩,⟨yh,yi,yj,yk,yl,ym,yn,-⟩,⟨yo,yp,yq,yr,yt,yu,yv,-⟩,⟨yw,yx,-⟩,-⟩:=hS.cells
    have hN0:(((x2_N2:Nat):Int) == 0) = false:=(ne0 (unhide G0) h0)
    clear G0 G1 G2
    go_wp2_with fail
    refine (xnought_n _ _ _ _ _ _ _ hN0 _).mono ?_
    rintro e w10 ⟨rfl,hb10⟩
    replace hS:=hS.kept hb10
    clear ya yb yc yd ye yf yg yh yi yj yk yl ym yn yo yp yq yr yt yu yv yw yx
    obtain ⟨⟨yy,yz,y0,y1,y2,y3,y4,-⟩,⟨y5,y6,y7,y8,y9,yba,ybb,-⟩,⟨ybc,ybd,ybe,ybf,ybg,ybh,ybi,-⟩,⟨ybj,ybk,-⟩,-⟩:=hS.cells
    go_wp2_with fail
    refine (HI _).mono ?_
    rintro e w11 ⟨rfl,hb11⟩
    replace hS:=hS.kept hb11
    clear yy yz y0 y1 y2 y3 y4 y5 y6 y7 y8 y9 yba ybb ybc ybd ybe ybf ybg ybh ybi ybj ybk
    obtain ⟨⟨ybl,ybm,ybn,ybo,ybp,ybq,ybr,-⟩,⟨ybs,ybt,ybu,ybv,ybw,ybx,yby,-⟩,⟨ybz,yb0,yb1,yb2,yb3,yb4,yb5,-⟩,⟨yb6,yb7,-⟩,-⟩:=hS.cells
    go_wp2
    go_ret3
    exact ⟨rfl,hS.fr⟩
   ·skip
    obtain ⟨⟨ya,yb,yc,yd,ye,yf,yg,-⟩,⟨yh,yi,yj,yk,yl,ym,yn,-⟩,⟨yo,yp,yq,yr,yt,yu,yv,-⟩,⟨yw,yx,-⟩,-⟩:=hS.cells
    have hN0:(((x2_N2:Nat):Int) == 0) = true:=(by have:=(unhide G0).zero.2 h0; simp [this])
    clear G0 G1 G2
    go_wp2_with fail
    refine (xnought_z _ _ _ _ _ _ _ hN0 _).mono ?_
    rintro e w10 ⟨rfl,hb10⟩
    replace hS:=hS.kept hb10
    clear ya yb yc yd ye yf yg yh yi yj yk yl ym yn yo yp yq yr yt yu yv yw yx
    obtain ⟨⟨yy,yz,y0,y1,y2,y3,y4,-⟩,⟨y5,y6,y7,y8,y9,yba,ybb,-⟩,⟨ybc,ybd,ybe,ybf,ybg,ybh,ybi,-⟩,⟨ybj,ybk,-⟩,-⟩:=hS.cells
    go_wp2
    go_ret3
    exact ⟨rfl,hS.fr⟩
   ·skip
    obtain ⟨⟨ya,yb,yc,yd,ye,yf,yg,-⟩,⟨yh,yi,yj,yk,yl,ym,yn,-⟩,⟨yo,yp,yq,yr,yt,yu,yv,-⟩,⟨yw,yx,-⟩,-⟩:=hS.cells
    have hN0:(((x2_N2:Nat):Int) == 0) = true:=(by have:=(unhide G0).zero.2 h0; simp [this])
    go_wp2_with fail
    refine (xnought_z _ _ _ _ _ _ _ hN0 _).mono ?_
    rintro e w10 ⟨rfl,hb10⟩
    replace hS:=hS.kept hb10
    clear ya yb yc yd ye yf yg yh yi yj yk yl ym yn yo yp yq yr yt yu yv yw yx
    obtain ⟨⟨yy,yz,y0,y1,y2,y3,y4,-⟩,⟨y5,y6,y7,y8,y9,yba,ybb,-⟩,⟨ybc,ybd,ybe,ybf,ybg,ybh,ybi,-⟩,⟨ybj,ybk,-⟩,-⟩:=hS.cells
    replace G0:=hide ((unhide G0).kept hb10)
    replace G1:=hide ((unhide G1).kept hb10)
    replace G2:=hide ((unhide G2).kept hb10)
    go_wp2_with fail
    refine (unhide HP _ _ _ _ _ _ _ (unhide G0) (unhide G1)).mono ?_
    rintro e w11 ⟨⟨A1,N1,C1,rfl,f1⟩,hb11⟩
    replace hS:=hS.kept hb11
    clear yy yz y0 y1 y2 y3 y4 y5 y6 y7 y8 y9 yba ybb ybc ybd ybe ybf ybg ybh ybi ybj ybk
    obtain ⟨⟨ybl,ybm,ybn,ybo,ybp,ybq,ybr,-⟩,⟨ybs,ybt,ybu,ybv,ybw,ybx,yby,-⟩,⟨ybz,yb0,yb1,yb2,yb3,yb4,yb5,-⟩,⟨yb6,yb7,-⟩,-⟩:=hS.cells
    replace G0:=hide ((unhide G0).kept hb11)
    replace G1:=hide ((unhide G1).kept hb11)
    replace G2:=hide ((unhide G2).kept hb11)
    have G3:=hide f1
    clear f1 G0 G1
    have hltw11_0:x2_g11 < w11.heap.size:=hS.lt 0 rfl
    have hltw11_1:x2_g10 < w11.heap.size:=hS.lt 1 rfl
    have hltw11_2:x2_g9 < w11.heap.size:=hS.lt 2 rfl
    have hltw11_3:w.heap.size < w11.heap.size:=hS.lt 3 rfl
    obtain ⟨WV1,hWV1⟩:∃ WV1,w11.alloc (.cells #[.bool r,.slice A1 N1 C1,.int .i64 y] 46) = WV1:=⟨_,rfl⟩
    replace hS:=hS.alloc #[.bool r,.slice A1 N1 C1,.int .i64 y] 46
    rw [hWV1] at hS
    replace G2:=hide (hWV1▸(unhide G2).alloc (.cells #[.bool r,.slice A1 N1 C1,.int .i64 y] 46))
    replace G3:=hide (hWV1▸(unhide G3).alloc (.cells #[.bool r,.slice A1 N1 C1,.int .i64 y] 46))
    clear ybl ybm ybn ybo ybp ybq ybr ybs ybt ybu ybv ybw ybx yby ybz yb0 yb1 yb2 yb3 yb4 yb5 yb6 yb7
    obtain ⟨⟨yb8,yb9,yca,-⟩,⟨ycf,ycg,ych,yci,ycj,yck,ycl,-⟩,⟨ycm,ycn,yco,ycp,ycq,ycr,ycs,-⟩,⟨yct,ycu,ycv,ycw,ycx,ycy,ycz,-⟩,⟨yc0,yc1,-⟩,-⟩:=hS.cells
    go_wp2_with fail
    refine (unhide HSm _ _ _ _ _ _ _ (unhide G3).num (unhide G2)).mono ?_
    rintro e w12 ⟨rfl,hb12⟩
    replace hS:=hS.kept hb12
    clear yb8 yb9 yca ycf ycg ych yci ycj yck ycl ycm ycn yco ycp ycq ycr ycs yct ycu ycv ycw ycx ycy ycz yc0 yc1
    obtain ⟨⟨yc2,yc3,yc4,-⟩,⟨yc5,yc6,yc7,yc8,yc9,yda,ydb,-⟩,⟨ydc,ydd,yde,ydf,ydg,ydh,ydi,-⟩,⟨ydj,ydk,ydl,ydm,ydn,ydo,ydp,-⟩,⟨ydq,ydr,-⟩,-⟩:=hS.cells
    replace G2:=hide ((unhide G2).kept hb12)
    replace G3:=hide ((unhide G3).kept hb12)
    go_wp2
    go_ret3
    exact ⟨rfl,hS.fr⟩
   ·skip
    obtain ⟨⟨ya,yb,yc,yd,ye,yf,yg,-⟩,⟨yh,yi,yj,yk,yl,ym,yn,-⟩,⟨yo,yp,yq,yr,yt,yu,yv,-⟩,⟨yw,yx,-⟩,-⟩:=hS.cells
    have hN0:(((x2_N2:Nat):Int) == 0) = false:=(ne0 (unhide G0) h0)
    clear G0 G1 G2
    go_wp2_with fail
    refine (xnought_n _ _ _ _ _ _ _ hN0 _).mono ?_
    rintro e w10 ⟨rfl,hb10⟩
    replace hS:=hS.kept hb10
    clear ya yb yc yd ye yf yg yh yi yj yk yl ym yn yo yp yq yr yt yu yv yw yx
    obtain ⟨⟨yy,yz,y0,y1,y2,y3,y4,-⟩,⟨y5,y6,y7,y8,y9,yba,ybb,-⟩,⟨ybc,ybd,ybe,ybf,ybg,ybh,ybi,-⟩,⟨ybj,ybk,-⟩,-⟩:=hS.cells
    go_wp2
    go_ret3
    exact ⟨rfl,hS.fr⟩
   ·skip
    obtain ⟨⟨ya,yb,yc,yd,ye,yf,yg,-⟩,⟨yh,yi,yj,yk,yl,ym,yn,-⟩,⟨yo,yp,yq,yr,yt,yu,yv,-⟩,⟨yw,yx,-⟩,-⟩:=hS.cells
    have hN0:(((x2_N2:Nat):Int) == 0) = false:=(ne0 (unhide G0) h0)
    go_wp2_with fail
    refine (xnought_n _ _ _ _ _ _ _ hN0 _).mono ?_
    rintro e w10 ⟨rfl,hb10⟩
    replace hS:=hS.kept hb10
    clear ya yb yc yd ye yf yg yh yi yj yk yl ym yn yo yp yq yr yt yu yv yw yx
    obtain ⟨⟨yy,yz,y0,y1,y2,y3,y4,-⟩,⟨y5,y6,y7,y8,y9,yba,ybb,-⟩,⟨ybc,ybd,ybe,ybf,ybg,ybh,ybi,-⟩,⟨ybj,ybk,-⟩,-⟩:=hS.cells
    replace G0:=hide ((unhide G0).kept hb10)
    replace G1:=hide ((unhide G1).kept hb10)
    replace G2:=hide ((unhide G2).kept hb10)
    go_wp2_with fail
    refine (unhide HP _ _ _ _ _ _ _ (unhide G0) (unhide G1)).mono ?_
    rintro e w11 ⟨⟨A1,N1,C1,rfl,f1⟩,hb11⟩
    replace hS:=hS.kept hb11
    clear yy yz y0 y1 y2 y3 y4 y5 y6 y7 y8 y9 yba ybb ybc ybd ybe ybf ybg ybh ybi ybj ybk
    obtain ⟨⟨ybl,ybm,ybn,ybo,ybp,ybq,ybr,-⟩,⟨ybs,ybt,ybu,ybv,ybw,ybx,yby,-⟩,⟨ybz,yb0,yb1,yb2,yb3,yb4,yb5,-⟩,⟨yb6,yb7,-⟩,-⟩:=hS.cells
    replace G0:=hide ((unhide G0).kept hb11)
    replace G1:=hide ((unhide G1).kept hb11)
    replace G2:=hide ((unhide G2).kept hb11)
    have G3:=hide f1
    clear f1 G0 G1
    have hltw11_0:x2_g11 < w11.heap.size:=hS.lt 0 rfl
    have hltw11_1:x2_g10 < w11.heap.size:=hS.lt 1 rfl
    have hltw11_2:x2_g9 < w11.heap.size:=hS.lt 2 rfl
    have hltw11_3:w.heap.size < w11.heap.size:=hS.lt 3 rfl
    obtain ⟨WV1,hWV1⟩:∃ WV1,w11.alloc (.cells #[.bool r,.slice A1 N1 C1,.int .i64 y] 46) = WV1:=⟨_,rfl⟩
    replace hS:=hS.alloc #[.bool r,.slice A1 N1 C1,.int .i64 y] 46
    rw [hWV1] at hS
    replace G2:=hide (hWV1▸(unhide G2).alloc (.cells #[.bool r,.slice A1 N1 C1,.int .i64 y] 46))
    replace G3:=hide (hWV1▸(unhide G3).alloc (.cells #[.bool r,.slice A1 N1 C1,.int .i64 y] 46))
    clear ybl ybm ybn ybo ybp ybq ybr ybs ybt ybu ybv ybw ybx yby ybz yb0 yb1 yb2 yb3 yb4 yb5 yb6 yb7
    obtain ⟨⟨yb8,yb9,yca,-⟩,⟨ycf,ycg,ych,yci,ycj,yck,ycl,-⟩,⟨ycm,ycn,yco,ycp,ycq,ycr,ycs,-⟩,⟨yct,ycu,ycv,ycw,ycx,ycy,ycz,-⟩,⟨yc0,yc1,-⟩,-⟩:=hS.cells
    go_wp2_with fail
    refine (unhide HSm _ _ _ _ _ _ _ (unhide G3).num (unhide G2)).mono ?_
    rintro e w12 ⟨rfl,hb12⟩
    replace hS:=hS.kept hb12
    clear yb8 yb9 yca ycf ycg ych yci ycj yck ycl ycm ycn yco ycp ycq ycr ycs yct ycu ycv ycw ycx ycy ycz yc0 yc1
    obtain ⟨⟨yc2,yc3,yc4,-⟩,⟨yc5,yc6,yc7,yc8,yc9,yda,ydb,-⟩,⟨ydc,ydd,yde,ydf,ydg,ydh,ydi,-⟩,⟨ydj,ydk,ydl,ydm,ydn,ydo,ydp,-⟩,⟨ydq,ydr,-⟩,-⟩:=hS.cells
    replace G2:=hide ((unhide G2).kept hb12)
    replace G3:=hide ((unhide G3).kept hb12)
    go_wp2
    go_ret3
    exact ⟨rfl,hS.fr⟩
 ·simp
 ·exact ⟨⟨false,false,false,false,false,false,false,false,false,false,false,false,false,false,false,undef,undef,undef,undef,undef,undef,undef,undef,undef,undef,undef,undef,none,0,0,none,0,0,none,0,0,_,_⟩,rfl,rfl,⟨hC9,nb,nb,nb,nb,nb,nb,nb,nb,nb,nb,nb,nb,nb,nb,nb,nb,nb,nb,nb,nb,nb,nb,nb,nb⟩⟩
end Go.Proofs.YtfimakkpdjppfaaGreatDoor
