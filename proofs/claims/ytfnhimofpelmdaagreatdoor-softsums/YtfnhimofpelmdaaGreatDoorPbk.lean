/- Of what SoftSumsRow stands on: SxAdd. -/
import Derived.Test.YtfnhimofpelmdaaGreatDoorPbf
import Derived.Test.YtfnhimofpelmdaaGreatDoorPau
namespace Go.Proofs.YtfnhimofpelmdaaGreatDoor
open Go.RowKit
set_option maxHeartbeats 8000000
set_option maxRecDepth 20000
structure Sxa2S where
 (b0 b1 b2 b3 b4 b5 b6 b7 b8 b9 : Bool)
 (v0 v1 v2 v3 v4 v5 v6 v7 : Value)
 (A2 : Option Addr)
 (N2 C2 : Nat)
 (A5 : Option Addr)
 (N5 C5 : Nat)
 bs9 : List En
 os9 : Os
structure Sxa2R (w : World) (E F a b md : Int) (g0 n0 q0 i0 s0 g1 n1 q1 i1 s1 : Bool) (m0 m1 : Nat) (x0 x1 : Int) (S9 : Nat) (b0 b1 b2 b3 b4 b5 b6 b7 b8 b9 : Bool) (v0 v1 v2 v3 v4 v5 v6 v7 : Value) (A2 : Option Addr) (N2 C2 : Nat) (A5 : Option Addr) (N5 C5 : Nat) (bs9 : List En) (os9 : Os) (w' : World) : Prop where
 hc : Rc w S9 [⟨w.heap.size,#[.int .i64 E,.int .i64 F],23⟩] [] [] none bs9 os9 w'
 f0 : b0 = true → v0 = .agg #[.int .i64 E,.int .i64 F]
 f1 : b1 = true → v1 = .int .u64 a
 f2 : b2 = true → v2 = .agg #[.bool g0,.bool n0,.bool q0,.bool i0,.bool s0,.slice A2 N2 C2,.int .i64 x0] ∧ (A2,N2,C2,m0) ∈ os9
 f3 : b3 = true → v3 = .agg #[.int .i64 E,.int .i64 F]
 f4 : b4 = true → v4 = .int .u64 b
 f5 : b5 = true → v5 = .agg #[.bool g1,.bool n1,.bool q1,.bool i1,.bool s1,.slice A5 N5 C5,.int .i64 x1] ∧ (A5,N5,C5,m1) ∈ os9
 f6 : b6 = true → AlN bs9 S9 v6 49 7
 f7 : b7 = true → AlN bs9 S9 v7 49 7
 f8 : b8 = true → StN bs9 S9 v6 #[.bool g0,.bool n0,.bool q0,.bool i0,.bool s0,.slice A2 N2 C2,.int .i64 x0] 49
 f9 : b9 = true → StN bs9 S9 v7 #[.bool g1,.bool n1,.bool q1,.bool i1,.bool s1,.slice A5 N5 C5,.int .i64 x1] 49
 d6_7 : b6 = true → b7 = true → v6 ≠ v7
 g8_6 : b8 = true → b6 = true
 g8_2 : b8 = true → b2 = true
 g9_7 : b9 = true → b7 = true
 g9_5 : b9 = true → b5 = true
def Sxa2I (w : World) (E F a b md : Int) (g0 n0 q0 i0 s0 g1 n1 q1 i1 s1 : Bool) (m0 m1 : Nat) (x0 x1 : Int) (S9 : Nat) (l : Array Bool) (act : Act) (w' : World) : Sxa2S → Prop
 | ⟨b0,b1,b2,b3,b4,b5,b6,b7,b8,b9,v0,v1,v2,v3,v4,v5,v6,v7,A2,N2,C2,A5,N5,C5,bs9,os9⟩ => l = #[b0,b1,b2,b3,b4,b5,b6,b7,b8,b9] ∧ act = { tmps := #[.agg #[.int .i64 E,.int .i64 F],.int .u64 a,.int .u64 b,.int .u8 md,.pointer (some ⟨w.heap.size,0,none⟩),undef,undef,undef,.int .u64 0,.int .u8 0,.int .i64 0,.int .i64 0,v6,v7,undef,undef,undef,undef,.agg #[.int .i64 E,.int .i64 F],.int .u8 md,.int .u64 a,.int .u64 b,.slice (some ⟨w.heap.size + 1,0,none⟩) 2 2,.int .i64 0,.int .i64 0,.bool false,undef,v0,v1,v2,v3,v4,v5,undef,undef,undef,undef,undef,undef,undef,undef,undef,undef,undef,undef,undef,undef,undef,undef,undef,undef,undef,undef,undef,undef,undef,undef,undef,undef,undef,undef,undef,undef,undef,undef,undef,undef,undef,undef,undef,undef,undef,undef,undef,undef,undef,undef,undef,undef,undef,undef,undef,undef,undef,undef],defers := [] } ∧ Sxa2R w E F a b md g0 n0 q0 i0 s0 g1 n1 q1 i1 s1 m0 m1 x0 x1 S9 b0 b1 b2 b3 b4 b5 b6 b7 b8 b9 v0 v1 v2 v3 v4 v5 v6 v7 A2 N2 C2 A5 N5 C5 bs9 os9 w'
theorem xAdd_ok (w : World) (E F a b md : Int) (g0 n0 q0 i0 s0 g1 n1 q1 i1 s1 : Bool) (m0 m1 : Nat) (x0 x1 nn X Y xs ys : Int) (H0 : Tel 52 #[.agg #[.int .i64 E,.int .i64 F],.int .u64 a] (.int .i64 0)) (H1 : Tel 52 #[.agg #[.int .i64 E,.int .i64 F],.int .u64 b] (.int .i64 0)) (hm : ¬ (4 : Int) < md) (HO0 : Hid (OpR E F a g0 n0 q0 i0 s0 m0 x0)) (HO1 : Hid (OpR E F b g1 n1 q1 i1 s1 m1 x1)) (HM : Tel 27 #[.agg #[.int .i64 E,.int .i64 F]] (.int .u64 nn)) (HSm : Hid (∀ (W : World) (A : Option Addr) (N C : Nat) (A' : Option Addr) (N' C' : Nat),Num W A N m0 → Num W A' N' m1 → Calls Tryz.prog 28 #[.agg #[.int .i64 E,.int .i64 F],.agg #[.bool s0,.slice A N C,.int .i64 x0],.agg #[.bool s1,.slice A' N' C',.int .i64 x1],.bool g0,.bool g1,.int .u8 md] W fun e w' => e = .returned (.tuple #[.int .u64 xs,.int .u8 ys]) ∧ Below W.heap.size W w')) (hcase : ((n0 || n1) = true ∧ X = nn ∧ Y = fl16 ((n0 && !q0) || (n1 && !q1))) ∨ ((n0 || n1) = false ∧ ((i0 = true ∧ i1 = true ∧ (!g0 == g1) = true ∧ X = nn ∧ Y = 16) ∨ (i0 = true ∧ i1 = true ∧ (!g0 == g1) = false ∧ X = a ∧ Y = 0) ∨ (i0 = true ∧ i1 = false ∧ X = a ∧ Y = 0) ∨ (i0 = false ∧ i1 = true ∧ X = b ∧ Y = 0) ∨ (i0 = false ∧ i1 = false ∧ X = xs ∧ Y = ys)))) :
  Calls Tryz.prog 9 #[.agg #[.int .i64 E,.int .i64 F],.int .u64 a,.int .u64 b,.int .u8 md] w fun e w' => e = .returned (.tuple #[.int .u64 X,.int .u8 Y,.int .i64 0]) ∧ Below w.heap.size w w' := by
 have hS := Rs.begin w
 replace hS := hS.alloc #[.int .i64 E,.int .i64 F] 23
 try simp only [World.size_alloc] at hS
 go_enter Tryz.func9,Tryz.ntmps9
 go_wp2_with fail
 refine (asked2_ok E F md _ a b H0 H1 (by omega) _ (by have := heap_alloc_new (w.alloc (.cells #[.int .i64 E,.int .i64 F] 23)) (.cells #[.int .u64 a,.int .u64 b] 24); simpa only [World.size_alloc] using this)).mono ?_
 rintro en w1 ⟨rfl,hb1⟩
 have hz1 := hb1.size
 simp only [World.size_alloc] at hz1
 replace hS := hS.kept (gr_trans (gr_alloc _ _) hb1)
 clear hb1
 go_wp2_with fail
 refine wp_region_any (by kernel_rfl) ?_
 change wpAny _ _ _ _ _ _ _ (World.drew _)
 have hS9 := hS.drew
 have hsW9 : (World.drew w1).heap.size = w1.heap.size := by first | rfl | simp
 generalize World.drew w1 = Wd at hS9 hsW9 ⊢
 obtain ⟨S9,hS9z⟩ : ∃ x,x = Wd.heap.size := ⟨_,rfl⟩
 have hC9 := Rc.start (bs := [⟨w.heap.size,#[.int .i64 E,.int .i64 F],23⟩]) hS9 (by simp)
 rw [← hS9z] at hC9
 refine wpAny_inv (fun l act w' => ∃ σ,Sxa2I w E F a b md g0 n0 q0 i0 s0 g1 n1 q1 i1 s1 m0 m1 x0 x1 S9 l act w' σ) ?_ ?_ _ _ _ _ ?_ ?_
 ·intro l act w' i9 hI9 hi9 hl9
  have hin9 : i9 < 10 := by
   by_cases h : i9 < 10
   ·exact h
   ·obtain ⟨⟨⟩,rfl,_⟩ := hI9
    rw [Array.getElem?_eq_none (by simp; omega)] at hl9; cases hl9
  have hcase : i9 = 0 ∨ i9 = 1 ∨ i9 = 2 ∨ i9 = 3 ∨ i9 = 4 ∨ i9 = 5 ∨ i9 = 6 ∨ i9 = 7 ∨ i9 = 8 ∨ i9 = 9 := by omega
  clear hin9
  obtain ⟨⟨b0,b1,b2,b3,b4,b5,b6,b7,b8,b9,v0,v1,v2,v3,v4,v5,v6,v7,A2,N2,C2,A5,N5,C5,bs9,os9⟩,rfl,rfl,hR⟩ := hI9
  rcases hcase with rfl | rfl | rfl | rfl | rfl | rfl | rfl | rfl | rfl | rfl
  ·obtain rfl : b0 = false := by simpa using hl9
   have hc := hR.hc
   have c9_0 := hc.st.cellAt (hc.old ⟨w.heap.size,#[.int .i64 E,.int .i64 F],23⟩ (by simp)).1 0 (.int .i64 E) rfl
   have c9_1 := hc.st.cellAt (hc.old ⟨w.heap.size,#[.int .i64 E,.int .i64 F],23⟩ (by simp)).1 1 (.int .i64 F) rfl
   simp only [] at c9_0 c9_1
   refine wpOp_step rfl fun K hK => ?_
   go_simp
   exact hK _ _ ⟨⟨_,_,_,_,_,_,_,_,_,_,_,_,_,_,_,_,_,_,A2,N2,C2,A5,N5,C5,_,_⟩,rfl,rfl,{ hR with hc := hc,f0 := (fun _ => rfl) }⟩
  ·obtain rfl : b1 = false := by simpa using hl9
   have hc := hR.hc
   refine wpOp_step rfl fun K hK => ?_
   go_simp
   exact hK _ _ ⟨⟨_,_,_,_,_,_,_,_,_,_,_,_,_,_,_,_,_,_,A2,N2,C2,A5,N5,C5,_,_⟩,rfl,rfl,{ hR with hc := hc,f1 := (fun _ => rfl) }⟩
  ·obtain rfl : b2 = false := by simpa using hl9
   obtain ⟨o9,ho9,hd9⟩ := (mem_ready.1 hi9).2
   cases ho9
   have e0 : b0 = true := hd9 ⟨0,.data⟩ (by simp) rfl
   have e1 : b1 = true := hd9 ⟨1,.data⟩ (by simp) rfl
   subst e0 e1
   have h9 := hR.f0 rfl
   subst h9
   have h9 := hR.f1 rfl
   subst h9
   have hc := hR.hc
   have HR := hide hR
   clear hR
   refine wpOp_step rfl fun K hK => ?_
   go_simp
   go_wp2_with fail
   refine (W_oft hc.st (unhide HO0 _ )).mono ?_
   rintro en w9 ⟨a9,n9,c9,rfl,hs9,hz9⟩
   have hR := unhide HR
   exact hK _ _ ⟨⟨_,_,_,_,_,_,_,_,_,_,_,_,_,_,_,_,_,_,_,_,_,A5,N5,C5,_,_⟩,rfl,rfl,{ hR with hc := (hc.call hs9 hz9 (fun y hy => List.mem_cons_of_mem _ hy)),f2 := (fun _ => ⟨rfl,List.mem_cons_self ..⟩),f5 := (fun h => ⟨(hR.f5 h).1,List.mem_cons_of_mem _ (hR.f5 h).2⟩),f8 := (fun h => Bool.noConfusion (hR.g8_2 h)),g8_2 := (fun _ => rfl) }⟩
  ·obtain rfl : b3 = false := by simpa using hl9
   have hc := hR.hc
   have c9_0 := hc.st.cellAt (hc.old ⟨w.heap.size,#[.int .i64 E,.int .i64 F],23⟩ (by simp)).1 0 (.int .i64 E) rfl
   have c9_1 := hc.st.cellAt (hc.old ⟨w.heap.size,#[.int .i64 E,.int .i64 F],23⟩ (by simp)).1 1 (.int .i64 F) rfl
   simp only [] at c9_0 c9_1
   refine wpOp_step rfl fun K hK => ?_
   go_simp
   exact hK _ _ ⟨⟨_,_,_,_,_,_,_,_,_,_,_,_,_,_,_,_,_,_,A2,N2,C2,A5,N5,C5,_,_⟩,rfl,rfl,{ hR with hc := hc,f3 := (fun _ => rfl) }⟩
  ·obtain rfl : b4 = false := by simpa using hl9
   have hc := hR.hc
   refine wpOp_step rfl fun K hK => ?_
   go_simp
   exact hK _ _ ⟨⟨_,_,_,_,_,_,_,_,_,_,_,_,_,_,_,_,_,_,A2,N2,C2,A5,N5,C5,_,_⟩,rfl,rfl,{ hR with hc := hc,f4 := (fun _ => rfl) }⟩
  ·obtain rfl : b5 = false := by simpa using hl9
   obtain ⟨o9,ho9,hd9⟩ := (mem_ready.1 hi9).2
   cases ho9
   have e3 : b3 = true := hd9 ⟨3,.data⟩ (by simp) rfl
   have e4 : b4 = true := hd9 ⟨4,.data⟩ (by simp) rfl
   subst e3 e4
   have h9 := hR.f3 rfl
   subst h9
   have h9 := hR.f4 rfl
   subst h9
   have hc := hR.hc
   have HR := hide hR
   clear hR
   refine wpOp_step rfl fun K hK => ?_
   go_simp
   go_wp2_with fail
   refine (W_oft hc.st (unhide HO1 _ )).mono ?_
   rintro en w9 ⟨a9,n9,c9,rfl,hs9,hz9⟩
   have hR := unhide HR
   exact hK _ _ ⟨⟨_,_,_,_,_,_,_,_,_,_,_,_,_,_,_,_,_,_,A2,N2,C2,_,_,_,_,_⟩,rfl,rfl,{ hR with hc := (hc.call hs9 hz9 (fun y hy => List.mem_cons_of_mem _ hy)),f2 := (fun h => ⟨(hR.f2 h).1,List.mem_cons_of_mem _ (hR.f2 h).2⟩),f5 := (fun _ => ⟨rfl,List.mem_cons_self ..⟩),f9 := (fun h => Bool.noConfusion (hR.g9_5 h)),g9_5 := (fun _ => rfl) }⟩
  ·obtain rfl : b6 = false := by simpa using hl9
   have hc := hR.hc
   refine wpOp_step rfl fun K hK => ?_
   go_simp
   exact hK _ _ ⟨⟨_,_,_,_,_,_,_,_,_,_,_,_,_,_,_,_,_,_,A2,N2,C2,A5,N5,C5,_,_⟩,rfl,rfl,{ hR with hc := (hc.alloc #[.bool false,.bool false,.bool false,.bool false,.bool false,.slice none 0 0,.int .i64 0] 49),f6 := (fun _ => AlN.self rfl hc.sz rfl),f7 := (fun h => (hR.f7 h).cons _),f8 := (fun h => Bool.noConfusion (hR.g8_6 h)),f9 := (fun h => (hR.f9 h).cons _),d6_7 := (fun _ h => Ne.symm ((hR.f7 h).ne hc.st)),g8_6 := (fun _ => rfl) }⟩
  ·obtain rfl : b7 = false := by simpa using hl9
   have hc := hR.hc
   refine wpOp_step rfl fun K hK => ?_
   go_simp
   exact hK _ _ ⟨⟨_,_,_,_,_,_,_,_,_,_,_,_,_,_,_,_,_,_,A2,N2,C2,A5,N5,C5,_,_⟩,rfl,rfl,{ hR with hc := (hc.alloc #[.bool false,.bool false,.bool false,.bool false,.bool false,.slice none 0 0,.int .i64 0] 49),f6 := (fun h => (hR.f6 h).cons _),f7 := (fun _ => AlN.self rfl hc.sz rfl),f8 := (fun h => (hR.f8 h).cons _),f9 := (fun h => Bool.noConfusion (hR.g9_7 h)),d6_7 := (fun h _ => (hR.f6 h).ne hc.st),g9_7 := (fun _ => rfl) }⟩
  ·obtain rfl : b8 = false := by simpa using hl9
   obtain ⟨o9,ho9,hd9⟩ := (mem_ready.1 hi9).2
   cases ho9
   have e2 : b2 = true := hd9 ⟨2,.data⟩ (by simp) rfl
   have e6 : b6 = true := hd9 ⟨6,.data⟩ (by simp) rfl
   subst e2 e6
   have q2 := hR.f2 rfl
   obtain ⟨h9,q2m⟩ := q2
   subst h9
   have hc := hR.hc
   obtain ⟨g9,cs9,h9,hg9,hz9,hm9⟩ := hR.f6 rfl
   subst h9
   obtain ⟨y9_0,y9_1,y9_2,y9_3,y9_4,y9_5,y9_6,rfl⟩ : ∃ y9_0 y9_1 y9_2 y9_3 y9_4 y9_5 y9_6,cs9 = #[y9_0,y9_1,y9_2,y9_3,y9_4,y9_5,y9_6] := by
    match cs9,hz9 with
    | ⟨[y9_0,y9_1,y9_2,y9_3,y9_4,y9_5,y9_6]⟩,_ => exact ⟨y9_0,y9_1,y9_2,y9_3,y9_4,y9_5,y9_6,rfl⟩
   clear hz9
   have fz9_0 := hc.st.frozen hm9 0
   have cz9_0 := hc.st.cellAt hm9 0 y9_0 rfl
   simp only [] at fz9_0 cz9_0
   have fz9_1 := hc.st.frozen hm9 1
   have cz9_1 := hc.st.cellAt hm9 1 y9_1 rfl
   simp only [] at fz9_1 cz9_1
   have fz9_2 := hc.st.frozen hm9 2
   have cz9_2 := hc.st.cellAt hm9 2 y9_2 rfl
   simp only [] at fz9_2 cz9_2
   have fz9_3 := hc.st.frozen hm9 3
   have cz9_3 := hc.st.cellAt hm9 3 y9_3 rfl
   simp only [] at fz9_3 cz9_3
   have fz9_4 := hc.st.frozen hm9 4
   have cz9_4 := hc.st.cellAt hm9 4 y9_4 rfl
   simp only [] at fz9_4 cz9_4
   have fz9_5 := hc.st.frozen hm9 5
   have cz9_5 := hc.st.cellAt hm9 5 y9_5 rfl
   simp only [] at fz9_5 cz9_5
   have fz9_6 := hc.st.frozen hm9 6
   have cz9_6 := hc.st.cellAt hm9 6 y9_6 rfl
   simp only [] at fz9_6 cz9_6
   have hn9 : ∀ x,x ∈ ([⟨w.heap.size,#[.int .i64 E,.int .i64 F],23⟩] : List En) → x.b ≠ g9 := fun x hx => by have := (hc.old x hx).2; omega
   refine wpOp_step rfl fun K hK => ?_
   go_simp
   exact hK _ _ ⟨⟨_,_,_,_,_,_,_,_,_,_,_,_,_,_,_,_,_,_,A2,N2,C2,A5,N5,C5,_,_⟩,rfl,rfl,{ hR with hc := (((((((hc.store hm9 (by have := hc.w0s; omega) hn9 0 (.bool g0) (by simp)).store (List.mem_cons_self ..) (by have := hc.w0s; omega) hn9 1 (.bool n0) (by simp)).store (List.mem_cons_self ..) (by have := hc.w0s; omega) hn9 2 (.bool q0) (by simp)).store (List.mem_cons_self ..) (by have := hc.w0s; omega) hn9 3 (.bool i0) (by simp)).store (List.mem_cons_self ..) (by have := hc.w0s; omega) hn9 4 (.bool s0) (by simp)).store (List.mem_cons_self ..) (by have := hc.w0s; omega) hn9 5 (.slice A2 N2 C2) (by simp)).store (List.mem_cons_self ..) (by have := hc.w0s; omega) hn9 6 (.int .i64 x0) (by simp)),f6 := (fun _ => ⟨g9,_,rfl,hg9,by simp,List.mem_cons_self ..⟩),f7 := (fun h => ((((((((hR.f7 h).but (fun e => hR.d6_7 rfl h e.symm) _).but (fun e => hR.d6_7 rfl h e.symm) _).but (fun e => hR.d6_7 rfl h e.symm) _).but (fun e => hR.d6_7 rfl h e.symm) _).but (fun e => hR.d6_7 rfl h e.symm) _).but (fun e => hR.d6_7 rfl h e.symm) _).but (fun e => hR.d6_7 rfl h e.symm) _)),f8 := (fun _ => ⟨g9,rfl,hg9,List.mem_cons_self ..⟩),f9 := (fun h => ((((((((hR.f9 h).but (fun e => hR.d6_7 rfl (hR.g9_7 h) e.symm) _).but (fun e => hR.d6_7 rfl (hR.g9_7 h) e.symm) _).but (fun e => hR.d6_7 rfl (hR.g9_7 h) e.symm) _).but (fun e => hR.d6_7 rfl (hR.g9_7 h) e.symm) _).but (fun e => hR.d6_7 rfl (hR.g9_7 h) e.symm) _).but (fun e => hR.d6_7 rfl (hR.g9_7 h) e.symm) _).but (fun e => hR.d6_7 rfl (hR.g9_7 h) e.symm) _)),g8_6 := (fun _ => rfl),g8_2 := (fun _ => rfl) }⟩
  ·obtain rfl : b9 = false := by simpa using hl9
   obtain ⟨o9,ho9,hd9⟩ := (mem_ready.1 hi9).2
   cases ho9
   have e5 : b5 = true := hd9 ⟨5,.data⟩ (by simp) rfl
   have e7 : b7 = true := hd9 ⟨7,.data⟩ (by simp) rfl
   subst e5 e7
   have q5 := hR.f5 rfl
   obtain ⟨h9,q5m⟩ := q5
   subst h9
   have hc := hR.hc
   obtain ⟨g9,cs9,h9,hg9,hz9,hm9⟩ := hR.f7 rfl
   subst h9
   obtain ⟨y9_0,y9_1,y9_2,y9_3,y9_4,y9_5,y9_6,rfl⟩ : ∃ y9_0 y9_1 y9_2 y9_3 y9_4 y9_5 y9_6,cs9 = #[y9_0,y9_1,y9_2,y9_3,y9_4,y9_5,y9_6] := by
    match cs9,hz9 with
    | ⟨[y9_0,y9_1,y9_2,y9_3,y9_4,y9_5,y9_6]⟩,_ => exact ⟨y9_0,y9_1,y9_2,y9_3,y9_4,y9_5,y9_6,rfl⟩
   clear hz9
   have fz9_0 := hc.st.frozen hm9 0
   have cz9_0 := hc.st.cellAt hm9 0 y9_0 rfl
   simp only [] at fz9_0 cz9_0
   have fz9_1 := hc.st.frozen hm9 1
   have cz9_1 := hc.st.cellAt hm9 1 y9_1 rfl
   simp only [] at fz9_1 cz9_1
   have fz9_2 := hc.st.frozen hm9 2
   have cz9_2 := hc.st.cellAt hm9 2 y9_2 rfl
   simp only [] at fz9_2 cz9_2
   have fz9_3 := hc.st.frozen hm9 3
   have cz9_3 := hc.st.cellAt hm9 3 y9_3 rfl
   simp only [] at fz9_3 cz9_3
   have fz9_4 := hc.st.frozen hm9 4
   have cz9_4 := hc.st.cellAt hm9 4 y9_4 rfl
   simp only [] at fz9_4 cz9_4
   have fz9_5 := hc.st.frozen hm9 5
   have cz9_5 := hc.st.cellAt hm9 5 y9_5 rfl
   simp only [] at fz9_5 cz9_5
   have fz9_6 := hc.st.frozen hm9 6
   have cz9_6 := hc.st.cellAt hm9 6 y9_6 rfl
   simp only [] at fz9_6 cz9_6
   have hn9 : ∀ x,x ∈ ([⟨w.heap.size,#[.int .i64 E,.int .i64 F],23⟩] : List En) → x.b ≠ g9 := fun x hx => by have := (hc.old x hx).2; omega
   refine wpOp_step rfl fun K hK => ?_
   go_simp
   exact hK _ _ ⟨⟨_,_,_,_,_,_,_,_,_,_,_,_,_,_,_,_,_,_,A2,N2,C2,A5,N5,C5,_,_⟩,rfl,rfl,{ hR with hc := (((((((hc.store hm9 (by have := hc.w0s; omega) hn9 0 (.bool g1) (by simp)).store (List.mem_cons_self ..) (by have := hc.w0s; omega) hn9 1 (.bool n1) (by simp)).store (List.mem_cons_self ..) (by have := hc.w0s; omega) hn9 2 (.bool q1) (by simp)).store (List.mem_cons_self ..) (by have := hc.w0s; omega) hn9 3 (.bool i1) (by simp)).store (List.mem_cons_self ..) (by have := hc.w0s; omega) hn9 4 (.bool s1) (by simp)).store (List.mem_cons_self ..) (by have := hc.w0s; omega) hn9 5 (.slice A5 N5 C5) (by simp)).store (List.mem_cons_self ..) (by have := hc.w0s; omega) hn9 6 (.int .i64 x1) (by simp)),f6 := (fun h => ((((((((hR.f6 h).but (fun e => hR.d6_7 h rfl e) _).but (fun e => hR.d6_7 h rfl e) _).but (fun e => hR.d6_7 h rfl e) _).but (fun e => hR.d6_7 h rfl e) _).but (fun e => hR.d6_7 h rfl e) _).but (fun e => hR.d6_7 h rfl e) _).but (fun e => hR.d6_7 h rfl e) _)),f7 := (fun _ => ⟨g9,_,rfl,hg9,by simp,List.mem_cons_self ..⟩),f8 := (fun h => ((((((((hR.f8 h).but (fun e => hR.d6_7 (hR.g8_6 h) rfl e) _).but (fun e => hR.d6_7 (hR.g8_6 h) rfl e) _).but (fun e => hR.d6_7 (hR.g8_6 h) rfl e) _).but (fun e => hR.d6_7 (hR.g8_6 h) rfl e) _).but (fun e => hR.d6_7 (hR.g8_6 h) rfl e) _).but (fun e => hR.d6_7 (hR.g8_6 h) rfl e) _).but (fun e => hR.d6_7 (hR.g8_6 h) rfl e) _)),f9 := (fun _ => ⟨g9,rfl,hg9,List.mem_cons_self ..⟩),g9_7 := (fun _ => rfl),g9_5 := (fun _ => rfl) }⟩
 ·rintro l act Wq2 ⟨⟨b0,b1,b2,b3,b4,b5,b6,b7,b8,b9,v0,v1,v2,v3,v4,v5,v6,v7,x2_A2,x2_N2,x2_C2,x2_A5,x2_N5,x2_C5,bs9,os9⟩,rfl,rfl,hR⟩ hr9
  obtain ⟨hc,f0,f1,f2,f3,f4,f5,f6,f7,f8,f9,d6_7,g8_6,g8_2,g9_7,g9_5⟩ := hR
  have eall := all_done hr9 (by kernel_rfl) rfl
  obtain rfl : b0 = true := eall 0 (by decide)
  obtain rfl : b1 = true := eall 1 (by decide)
  obtain rfl : b2 = true := eall 2 (by decide)
  obtain rfl : b3 = true := eall 3 (by decide)
  obtain rfl : b4 = true := eall 4 (by decide)
  obtain rfl : b5 = true := eall 5 (by decide)
  obtain rfl : b6 = true := eall 6 (by decide)
  obtain rfl : b7 = true := eall 7 (by decide)
  obtain rfl : b8 = true := eall 8 (by decide)
  obtain rfl : b9 = true := eall 9 (by decide)
  clear hr9 eall
  have h9 := f0 rfl
  subst h9
  have h9 := f1 rfl
  subst h9
  obtain ⟨h9,q2m⟩ := f2 rfl
  subst h9
  have h9 := f3 rfl
  subst h9
  have h9 := f4 rfl
  subst h9
  obtain ⟨h9,q5m⟩ := f5 rfl
  subst h9
  obtain ⟨x2_g6,h9,hg6,hm6⟩ := f8 rfl
  subst h9
  obtain ⟨x2_g7,h9,hg7,hm7⟩ := f9 rfl
  subst h9
  have hbs9 : ∀ x,x ∈ ([⟨x2_g7,#[.bool g1,.bool n1,.bool q1,.bool i1,.bool s1,.slice x2_A5 x2_N5 x2_C5,.int .i64 x1],49⟩,⟨x2_g6,#[.bool g0,.bool n0,.bool q0,.bool i0,.bool s0,.slice x2_A2 x2_N2 x2_C2,.int .i64 x0],49⟩,⟨w.heap.size,#[.int .i64 E,.int .i64 F],23⟩] : List En) → x ∈ bs9 := by
   intro x hx
   rcases List.mem_cons.1 hx with rfl | hx
   ·exact hm7
   rcases List.mem_cons.1 hx with rfl | hx
   ·exact hm6
   rcases List.mem_cons.1 hx with rfl | hx
   ·exact (hc.old _ (by simp)).1
   exact absurd hx List.not_mem_nil
  have hos9 : ∀ x,x ∈ ([(x2_A2,x2_N2,x2_C2,m0),(x2_A5,x2_N5,x2_C5,m1)] : Os) → x ∈ os9 := by
   intro x hx
   rcases List.mem_cons.1 hx with rfl | hx
   ·exact q2m
   rcases List.mem_cons.1 hx with rfl | hx
   ·exact q5m
   exact absurd hx List.not_mem_nil
  have hS := hc.st.sub hbs9 (fun x hx => hx) hos9
  have hsz9 := hc.sz
  rw [hS9z,hsW9] at hsz9
  have hlx2_g6 := hg6
  rw [hS9z,hsW9] at hlx2_g6
  have hux2_g6 := block_lt (hc.st.bx _ hm6).1
  simp only [] at hux2_g6
  have hlx2_g7 := hg7
  rw [hS9z,hsW9] at hlx2_g7
  have hux2_g7 := block_lt (hc.st.bx _ hm7).1
  simp only [] at hux2_g7
  have hnx2_6_7 : x2_g6 ≠ x2_g7 := fun e9 => d6_7 rfl rfl (by rw [e9])
  clear hbs9 hos9 hc f0 f1 f2 f3 f4 f5 f6 f7 f8 f9 d6_7 g8_6 g8_2 g9_7 g9_5
  clear q2m q5m hm6 hm7 hg6 hg7
  have hz2 := hsz9
  clear hsz9 hS9z hS9 hC9 hsW9
  obtain ⟨⟨k0_0,k0_1,k0_2,k0_3,k0_4,k0_5,k0_6,-⟩,z0⟩ := hS.cz ⟨x2_g7,#[.bool g1,.bool n1,.bool q1,.bool i1,.bool s1,.slice x2_A5 x2_N5 x2_C5,.int .i64 x1],49⟩ (by simp)
  have z0_0 := z0 0
  have z0_1 := z0 1
  have z0_2 := z0 2
  have z0_3 := z0 3
  have z0_4 := z0 4
  have z0_5 := z0 5
  have z0_6 := z0 6
  clear z0
  obtain ⟨⟨k1_0,k1_1,k1_2,k1_3,k1_4,k1_5,k1_6,-⟩,z1⟩ := hS.cz ⟨x2_g6,#[.bool g0,.bool n0,.bool q0,.bool i0,.bool s0,.slice x2_A2 x2_N2 x2_C2,.int .i64 x0],49⟩ (by simp)
  have z1_0 := z1 0
  have z1_1 := z1 1
  have z1_2 := z1 2
  have z1_3 := z1 3
  have z1_4 := z1 4
  have z1_5 := z1 5
  have z1_6 := z1 6
  clear z1
  obtain ⟨⟨k2_0,k2_1,-⟩,z2⟩ := hS.cz ⟨w.heap.size,#[.int .i64 E,.int .i64 F],23⟩ (by simp)
  have z2_0 := z2 0
  have z2_1 := z2 1
  clear z2
  simp only [] at k0_0 z0_0 k0_1 z0_1 k0_2 z0_2 k0_3 z0_3 k0_4 z0_4 k0_5 z0_5 k0_6 z0_6 k1_0 z1_0 k1_1 z1_1 k1_2 z1_2 k1_3 z1_3 k1_4 z1_4 k1_5 z1_5 k1_6 z1_6 k2_0 z2_0 k2_1 z2_1
  go_wp2_with fail
  refine (nans2_of _ 0 _ n0 q0 n1 q1 (Nl2.made (Nat.zero_le _) rfl rfl rfl rfl)).mono ?_
  rintro en w9 ⟨rfl,hb9⟩
  replace hS := hS.kept (gr_trans (gr_alloc _ _) hb9)
  clear hb9
  clear k0_0 z0_0 k0_1 z0_1 k0_2 z0_2 k0_3 z0_3 k0_4 z0_4 k0_5 z0_5 k0_6 z0_6 k1_0 z1_0 k1_1 z1_1 k1_2 z1_2 k1_3 z1_3 k1_4 z1_4 k1_5 z1_5 k1_6 z1_6 k2_0 z2_0 k2_1 z2_1
  obtain ⟨⟨k0_0,k0_1,k0_2,k0_3,k0_4,k0_5,k0_6,-⟩,z0⟩ := hS.cz ⟨x2_g7,#[.bool g1,.bool n1,.bool q1,.bool i1,.bool s1,.slice x2_A5 x2_N5 x2_C5,.int .i64 x1],49⟩ (by simp)
  have z0_0 := z0 0
  have z0_1 := z0 1
  have z0_2 := z0 2
  have z0_3 := z0 3
  have z0_4 := z0 4
  have z0_5 := z0 5
  have z0_6 := z0 6
  clear z0
  obtain ⟨⟨k1_0,k1_1,k1_2,k1_3,k1_4,k1_5,k1_6,-⟩,z1⟩ := hS.cz ⟨x2_g6,#[.bool g0,.bool n0,.bool q0,.bool i0,.bool s0,.slice x2_A2 x2_N2 x2_C2,.int .i64 x0],49⟩ (by simp)
  have z1_0 := z1 0
  have z1_1 := z1 1
  have z1_2 := z1 2
  have z1_3 := z1 3
  have z1_4 := z1 4
  have z1_5 := z1 5
  have z1_6 := z1 6
  clear z1
  obtain ⟨⟨k2_0,k2_1,-⟩,z2⟩ := hS.cz ⟨w.heap.size,#[.int .i64 E,.int .i64 F],23⟩ (by simp)
  have z2_0 := z2 0
  have z2_1 := z2 1
  clear z2
  simp only [] at k0_0 z0_0 k0_1 z0_1 k0_2 z0_2 k0_3 z0_3 k0_4 z0_4 k0_5 z0_5 k0_6 z0_6 k1_0 z1_0 k1_1 z1_1 k1_2 z1_2 k1_3 z1_3 k1_4 z1_4 k1_5 z1_5 k1_6 z1_6 k2_0 z2_0 k2_1 z2_1
  rcases hcase with ⟨hr,rfl,rfl⟩ | ⟨hr,⟨rfl,rfl,hg,rfl,rfl⟩ | ⟨rfl,rfl,hg,rfl,rfl⟩ | ⟨rfl,rfl,rfl,rfl⟩ | ⟨rfl,rfl,rfl,rfl⟩ | ⟨rfl,rfl,rfl,rfl⟩⟩
  ·rw [hr]
   go_wp2_with fail
   refine (HM _).mono ?_
   rintro en w8 ⟨rfl,hb8⟩
   replace hS := hS.kept hb8
   go_wp2
   go_ret3
   exact ⟨rfl,hS.fr⟩
  ·rw [hr]
   go_wp2_with fail
   refine (HM _).mono ?_
   rintro en w8 ⟨rfl,hb8⟩
   replace hS := hS.kept hb8
   go_wp2
   go_ret3
   exact ⟨rfl,hS.fr⟩
  ·rw [hr]
   go_wp2
   go_ret3
   exact ⟨rfl,hS.fr⟩
  ·rw [hr]
   go_wp2
   go_ret3
   exact ⟨rfl,hS.fr⟩
  ·rw [hr]
   go_wp2
   go_ret3
   exact ⟨rfl,hS.fr⟩
  ·rw [hr]
   go_wp2_with fail
   refine (unhide HSm _ _ _ _ _ _ _ (hS.ow (x2_A2,x2_N2,x2_C2,m0) (by simp)).num (hS.ow (x2_A5,x2_N5,x2_C5,m1) (by simp)).num).mono ?_
   rintro en w8 ⟨rfl,hb8⟩
   replace hS := hS.kept hb8
   go_wp2
   go_ret3
   exact ⟨rfl,hS.fr⟩
 ·simp
 ·exact ⟨⟨false,false,false,false,false,false,false,false,false,false,undef,undef,undef,undef,undef,undef,undef,undef,none,0,0,none,0,0,_,_⟩,rfl,rfl,⟨hC9,nb,nb,nb,nb,nb,nb,nb,nb,nb,nb,nb,nb,nb,nb,nb⟩⟩
end Go.Proofs.YtfnhimofpelmdaaGreatDoor
