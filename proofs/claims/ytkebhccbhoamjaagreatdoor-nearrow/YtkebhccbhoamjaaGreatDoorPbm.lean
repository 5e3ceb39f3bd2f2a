/- Of what NearRowRow stands on: NrMean. -/
import Derived.Test.YtkebhccbhoamjaaGreatDoorPbl
import Derived.Test.YtkebhccbhoamjaaGreatDoorPau
namespace Go.Proofs.YtkebhccbhoamjaaGreatDoor
open Go.RowKit
set_option maxHeartbeats 4000000
set_option maxRecDepth 20000
structure Nme2S where
 (b0 b1 b2 b3 b4 b5 b6 b7 b8 : Bool)
 (v0 v1 v2 v3 v4 v5 v6 v8 : Value)
 (A1 : Option Addr)
 (N1 C1 : Nat)
 (A2 : Option Addr)
 (N2 C2 : Nat)
 bs9 : List En
 os9 : Os
structure Nme2R (w : World) (s : Bool) (a : Option Addr) (n cap : Nat) (xq : Int) (s' : Bool) (a' : Option Addr) (n' cap' : Nat) (yq : Int) (r1 : Bool) (u1 : Nat) (z1 : Int) (rr : Bool) (vv : Nat) (yy : Int) (w1 : World) (AQ : Option Addr) (NQ CQ : Nat) (S9 : Nat) (b0 b1 b2 b3 b4 b5 b6 b7 b8 : Bool) (v0 v1 v2 v3 v4 v5 v6 v8 : Value) (A1 : Option Addr) (N1 C1 : Nat) (A2 : Option Addr) (N2 C2 : Nat) (bs9 : List En) (os9 : Os) (w' : World) : Prop where
 hc : Rc w S9 [⟨w1.heap.size,#[.bool r1,.slice AQ NQ CQ,.int .i64 z1],33⟩,⟨w.heap.size + 1 + 1,#[.bool false,.slice none 0 0,.int .i64 0],33⟩] [] [(AQ,NQ,CQ,u1)] none bs9 os9 w'
 f0 : b0 = true → v0 = .agg #[.bool r1,.slice AQ NQ CQ,.int .i64 z1]
 f1 : b1 = true → v1 = .agg #[.bool false,.slice A1 N1 C1,.int .i64 (-1)] ∧ (A1,N1,C1,1) ∈ os9
 f2 : b2 = true → v2 = .tuple #[.agg #[.bool rr,.slice A2 N2 C2,.int .i64 yy],.int .i64 0] ∧ (A2,N2,C2,vv) ∈ os9
 f3 : b3 = true → v3 = .tuple #[.agg #[.bool rr,.slice A2 N2 C2,.int .i64 yy],.int .i64 0]
 f4 : b4 = true → v4 = .agg #[.bool rr,.slice A2 N2 C2,.int .i64 yy]
 f5 : b5 = true → v5 = .int .i64 0
 f6 : b6 = true → AlN bs9 S9 v6 33 3
 f7 : b7 = true → StN bs9 S9 v6 #[.bool rr,.slice A2 N2 C2,.int .i64 yy] 33
 f8 : b8 = true → v8 = .int .i64 0
 g2_1 : b2 = true → b1 = true
 g3_2 : b3 = true → b2 = true
 g3_1 : b3 = true → b1 = true
 g4_2 : b4 = true → b2 = true
 g4_1 : b4 = true → b1 = true
 g5_2 : b5 = true → b2 = true
 g5_1 : b5 = true → b1 = true
 g7_6 : b7 = true → b6 = true
 g7_4 : b7 = true → b4 = true
 g7_2 : b7 = true → b2 = true
 g7_1 : b7 = true → b1 = true
 g8_2 : b8 = true → b2 = true
 g8_1 : b8 = true → b1 = true
def Nme2I (w : World) (s : Bool) (a : Option Addr) (n cap : Nat) (xq : Int) (s' : Bool) (a' : Option Addr) (n' cap' : Nat) (yq : Int) (r1 : Bool) (u1 : Nat) (z1 : Int) (rr : Bool) (vv : Nat) (yy : Int) (w1 : World) (AQ : Option Addr) (NQ CQ : Nat) (S9 : Nat) (l : Array Bool) (act : Act) (w' : World) : Nme2S → Prop
 | ⟨b0,b1,b2,b3,b4,b5,b6,b7,b8,v0,v1,v2,v3,v4,v5,v6,v8,A1,N1,C1,A2,N2,C2,bs9,os9⟩ => l = #[b0,b1,b2,b3,b4,b5,b6,b7,b8] ∧ act = { tmps := #[.agg #[.bool s,.slice a n cap,.int .i64 xq],.agg #[.bool s',.slice a' n' cap',.int .i64 yq],.pointer (some ⟨w.heap.size,0,none⟩),.pointer (some ⟨w.heap.size + 1,0,none⟩),.pointer (some ⟨w.heap.size + 1 + 1,0,none⟩),.pointer (some ⟨w1.heap.size,0,none⟩),.int .i64 0,v6,v8,.tuple #[.agg #[.bool r1,.slice AQ NQ CQ,.int .i64 z1],.int .i64 0],.agg #[.bool s,.slice a n cap,.int .i64 xq],.agg #[.bool s',.slice a' n' cap',.int .i64 yq],.tuple #[.agg #[.bool r1,.slice AQ NQ CQ,.int .i64 z1],.int .i64 0],.agg #[.bool r1,.slice AQ NQ CQ,.int .i64 z1],.int .i64 0,v3,v0,v1,v2,v4,v5,undef],defers := [] } ∧ Nme2R w s a n cap xq s' a' n' cap' yq r1 u1 z1 rr vv yy w1 AQ NQ CQ S9 b0 b1 b2 b3 b4 b5 b6 b7 b8 v0 v1 v2 v3 v4 v5 v6 v8 A1 N1 C1 A2 N2 C2 bs9 os9 w'
theorem mean_is (w : World) (s : Bool) (a : Option Addr) (n cap m : Nat) (xq : Int) (s' : Bool) (a' : Option Addr) (n' cap' m' : Nat) (yq : Int) (r1 : Bool) (u1 : Nat) (z1 : Int) (rr : Bool) (vv : Nat) (yy : Int) (h : Num w a n m) (h' : Num w a' n' m') (HS : Hid (RSums s m xq s' m' yq r1 u1 z1)) (HP : Hid (RProds r1 u1 z1 false 1 (-1) rr vv yy)) :
  Calls Tryz.prog 69 #[.agg #[.bool s,.slice a n cap,.int .i64 xq],.agg #[.bool s',.slice a' n' cap',.int .i64 yq]] w fun e w' => (∃ A N C,e = .returned (.agg #[.bool rr,.slice A N C,.int .i64 yy]) ∧ Mine w' w.heap.size A N C vv) ∧ Below w.heap.size w w' := by
 have hS := Rs.begin w
 replace hS := hS.num h
 replace hS := hS.num h'
 replace hS := hS.alloc #[.bool s,.slice a n cap,.int .i64 xq] 33
 try simp only [World.size_alloc] at hS
 replace hS := hS.alloc #[.bool s',.slice a' n' cap',.int .i64 yq] 33
 try simp only [World.size_alloc] at hS
 replace hS := hS.alloc #[.bool false,.slice none 0 0,.int .i64 0] 33
 try simp only [World.size_alloc] at hS
 go_enter Tryz.func69,Tryz.ntmps69
 go_wp2_with fail
 refine (unhide HS _ _ _ _ _ _ _ (hS.nm (a,n,m) (by simp)) (hS.nm (a',n',m') (by simp))).mono ?_
 rintro en w1 ⟨⟨AQ,NQ,CQ,rfl,g1⟩,hb1⟩
 have hz1 := hb1.size
 simp only [World.size_alloc] at hz1
 have hle1 := hS.size
 replace hS := (hS.kept hb1).own g1 hle1
 clear hb1 g1 hle1
 go_wp2_with fail
 replace hS := hS.alloc #[.bool r1,.slice AQ NQ CQ,.int .i64 z1] 33
 try simp only [World.size_alloc] at hS
 replace hS := hS.sub (bs' := [⟨w1.heap.size,#[.bool r1,.slice AQ NQ CQ,.int .i64 z1],33⟩,⟨w.heap.size + 1 + 1,#[.bool false,.slice none 0 0,.int .i64 0],33⟩]) (ms' := []) (os' := [(AQ,NQ,CQ,u1)]) (by intro x hx; rcases List.mem_cons.1 hx with rfl | hx; (simp); rcases List.mem_cons.1 hx with rfl | hx; (simp); exact absurd hx List.not_mem_nil) (by intro x hx; exact absurd hx List.not_mem_nil) (by intro x hx; rcases List.mem_cons.1 hx with rfl | hx; (simp); exact absurd hx List.not_mem_nil)
 refine wp_region_any (by kernel_rfl) ?_
 change wpAny _ _ _ _ _ _ _ (World.drew _)
 have hS9 := hS.drew
 have hsW9 : (World.drew (w1.alloc (.cells #[.bool r1,.slice AQ NQ CQ,.int .i64 z1] 33))).heap.size = w1.heap.size + 1 := by first | rfl | simp
 generalize World.drew (w1.alloc (.cells #[.bool r1,.slice AQ NQ CQ,.int .i64 z1] 33)) = Wd at hS9 hsW9 ⊢
 obtain ⟨S9,hS9z⟩ : ∃ x,x = Wd.heap.size := ⟨_,rfl⟩
 have hC9 := Rc.start (bs := [⟨w1.heap.size,#[.bool r1,.slice AQ NQ CQ,.int .i64 z1],33⟩,⟨w.heap.size + 1 + 1,#[.bool false,.slice none 0 0,.int .i64 0],33⟩]) hS9 (by simp)
 rw [← hS9z] at hC9
 refine wpAny_inv (fun l act w' => ∃ σ,Nme2I w s a n cap xq s' a' n' cap' yq r1 u1 z1 rr vv yy w1 AQ NQ CQ S9 l act w' σ) ?_ ?_ _ _ _ _ ?_ ?_
 ·intro l act w' i9 hI9 hi9 hl9
  have hin9 : i9 < 9 := by
   by_cases h : i9 < 9
   ·exact h
   ·obtain ⟨⟨⟩,rfl,_⟩ := hI9
    rw [Array.getElem?_eq_none (by simp; omega)] at hl9; cases hl9
  have hcase : i9 = 0 ∨ i9 = 1 ∨ i9 = 2 ∨ i9 = 3 ∨ i9 = 4 ∨ i9 = 5 ∨ i9 = 6 ∨ i9 = 7 ∨ i9 = 8 := by omega
  clear hin9
  obtain ⟨⟨b0,b1,b2,b3,b4,b5,b6,b7,b8,v0,v1,v2,v3,v4,v5,v6,v8,A1,N1,C1,A2,N2,C2,bs9,os9⟩,rfl,rfl,hR⟩ := hI9
  rcases hcase with rfl | rfl | rfl | rfl | rfl | rfl | rfl | rfl | rfl
  ·obtain rfl : b0 = false := by simpa using hl9
   have hc := hR.hc
   have c9_0 := hc.st.cellAt (hc.old ⟨w1.heap.size,#[.bool r1,.slice AQ NQ CQ,.int .i64 z1],33⟩ (by simp)).1 0 (.bool r1) rfl
   have c9_1 := hc.st.cellAt (hc.old ⟨w1.heap.size,#[.bool r1,.slice AQ NQ CQ,.int .i64 z1],33⟩ (by simp)).1 1 (.slice AQ NQ CQ) rfl
   have c9_2 := hc.st.cellAt (hc.old ⟨w1.heap.size,#[.bool r1,.slice AQ NQ CQ,.int .i64 z1],33⟩ (by simp)).1 2 (.int .i64 z1) rfl
   simp only [] at c9_0 c9_1 c9_2
   refine wpOp_step rfl fun K hK => ?_
   go_simp
   exact hK _ _ ⟨⟨_,_,_,_,_,_,_,_,_,_,_,_,_,_,_,_,_,A1,N1,C1,A2,N2,C2,_,_⟩,rfl,rfl,{ hR with hc := hc,f0 := (fun _ => rfl) }⟩
  ·obtain rfl : b1 = false := by simpa using hl9
   have hc := hR.hc
   have HR := hide hR
   clear hR
   refine wpOp_step rfl fun K hK => ?_
   go_simp
   go_wp2_with fail
   refine (W_oft hc.st (rpower (-1) (by decide) _ )).mono ?_
   rintro en w9 ⟨a9,n9,c9,rfl,hs9,hz9⟩
   have hR := unhide HR
   exact hK _ _ ⟨⟨_,_,_,_,_,_,_,_,_,_,_,_,_,_,_,_,_,_,_,_,A2,N2,C2,_,_⟩,rfl,rfl,{ hR with hc := (hc.call hs9 hz9 (fun y hy => List.mem_cons_of_mem _ hy)),f1 := (fun _ => ⟨rfl,List.mem_cons_self ..⟩),f2 := (fun h => Bool.noConfusion (hR.g2_1 h)),f3 := (fun h => Bool.noConfusion (hR.g3_1 h)),f4 := (fun h => Bool.noConfusion (hR.g4_1 h)),f5 := (fun h => Bool.noConfusion (hR.g5_1 h)),f7 := (fun h => Bool.noConfusion (hR.g7_1 h)),f8 := (fun h => Bool.noConfusion (hR.g8_1 h)),g2_1 := (fun _ => rfl),g3_1 := (fun _ => rfl),g4_1 := (fun _ => rfl),g5_1 := (fun _ => rfl),g7_1 := (fun _ => rfl),g8_1 := (fun _ => rfl) }⟩
  ·obtain rfl : b2 = false := by simpa using hl9
   obtain ⟨o9,ho9,hd9⟩ := (mem_ready.1 hi9).2
   cases ho9
   have e0 : b0 = true := hd9 ⟨0,.data⟩ (by simp) rfl
   have e1 : b1 = true := hd9 ⟨1,.data⟩ (by simp) rfl
   subst e0 e1
   have h9 := hR.f0 rfl
   subst h9
   have q1 := hR.f1 rfl
   obtain ⟨h9,q1m⟩ := q1
   subst h9
   have hc := hR.hc
   have HR := hide hR
   clear hR
   refine wpOp_step rfl fun K hK => ?_
   go_simp
   go_wp2_with fail
   refine (W_oft hc.st (unhide HP _ _ _ _ _ _ _ (hc.st.ow (AQ,NQ,CQ,u1) (hc.oso _ (by simp))).num (hc.st.ow _ q1m).num)).mono ?_
   rintro en w9 ⟨a9,n9,c9,rfl,hs9,hz9⟩
   have hR := unhide HR
   exact hK _ _ ⟨⟨_,_,_,_,_,_,_,_,_,_,_,_,_,_,_,_,_,A1,N1,C1,_,_,_,_,_⟩,rfl,rfl,{ hR with hc := (hc.call hs9 hz9 (fun y hy => List.mem_cons_of_mem _ hy)),f1 := (fun h => ⟨(hR.f1 h).1,List.mem_cons_of_mem _ (hR.f1 h).2⟩),f2 := (fun _ => ⟨rfl,List.mem_cons_self ..⟩),f3 := (fun h => Bool.noConfusion (hR.g3_2 h)),f4 := (fun h => Bool.noConfusion (hR.g4_2 h)),f5 := (fun h => Bool.noConfusion (hR.g5_2 h)),f7 := (fun h => Bool.noConfusion (hR.g7_2 h)),f8 := (fun h => Bool.noConfusion (hR.g8_2 h)),g2_1 := (fun _ => rfl),g3_2 := (fun _ => rfl),g4_2 := (fun _ => rfl),g5_2 := (fun _ => rfl),g7_2 := (fun _ => rfl),g8_2 := (fun _ => rfl) }⟩
  ·obtain rfl : b3 = false := by simpa using hl9
   obtain ⟨o9,ho9,hd9⟩ := (mem_ready.1 hi9).2
   cases ho9
   have e2 : b2 = true := hd9 ⟨2,.data⟩ (by simp) rfl
   subst e2
   have q2 := hR.f2 rfl
   obtain ⟨h9,q2m⟩ := q2
   subst h9
   have hc := hR.hc
   refine wpOp_step rfl fun K hK => ?_
   go_simp
   exact hK _ _ ⟨⟨_,_,_,_,_,_,_,_,_,_,_,_,_,_,_,_,_,A1,N1,C1,A2,N2,C2,_,_⟩,rfl,rfl,{ hR with hc := hc,f3 := (fun _ => rfl),g3_2 := (fun _ => rfl),g3_1 := (fun _ => hR.g2_1 rfl) }⟩
  ·obtain rfl : b4 = false := by simpa using hl9
   obtain ⟨o9,ho9,hd9⟩ := (mem_ready.1 hi9).2
   cases ho9
   have e3 : b3 = true := hd9 ⟨3,.data⟩ (by simp) rfl
   subst e3
   obtain rfl : b2 = true := hR.g3_2 rfl
   have q2 := hR.f2 rfl
   obtain ⟨h9,q2m⟩ := q2
   subst h9
   obtain rfl : b1 = true := hR.g3_1 rfl
   have q1 := hR.f1 rfl
   obtain ⟨h9,q1m⟩ := q1
   subst h9
   have h9 := hR.f3 rfl
   subst h9
   have hc := hR.hc
   refine wpOp_step rfl fun K hK => ?_
   go_simp
   exact hK _ _ ⟨⟨_,_,_,_,_,_,_,_,_,_,_,_,_,_,_,_,_,A1,N1,C1,A2,N2,C2,_,_⟩,rfl,rfl,{ hR with hc := hc,f4 := (fun _ => rfl),f7 := (fun h => Bool.noConfusion (hR.g7_4 h)),g4_2 := (fun _ => rfl),g4_1 := (fun _ => rfl),g7_4 := (fun _ => rfl) }⟩
  ·obtain rfl : b5 = false := by simpa using hl9
   obtain ⟨o9,ho9,hd9⟩ := (mem_ready.1 hi9).2
   cases ho9
   have e3 : b3 = true := hd9 ⟨3,.data⟩ (by simp) rfl
   subst e3
   obtain rfl : b2 = true := hR.g3_2 rfl
   have q2 := hR.f2 rfl
   obtain ⟨h9,q2m⟩ := q2
   subst h9
   obtain rfl : b1 = true := hR.g3_1 rfl
   have q1 := hR.f1 rfl
   obtain ⟨h9,q1m⟩ := q1
   subst h9
   have h9 := hR.f3 rfl
   subst h9
   have hc := hR.hc
   refine wpOp_step rfl fun K hK => ?_
   go_simp
   exact hK _ _ ⟨⟨_,_,_,_,_,_,_,_,_,_,_,_,_,_,_,_,_,A1,N1,C1,A2,N2,C2,_,_⟩,rfl,rfl,{ hR with hc := hc,f5 := (fun _ => rfl),g5_2 := (fun _ => rfl),g5_1 := (fun _ => rfl) }⟩
  ·obtain rfl : b6 = false := by simpa using hl9
   have hc := hR.hc
   refine wpOp_step rfl fun K hK => ?_
   go_simp
   exact hK _ _ ⟨⟨_,_,_,_,_,_,_,_,_,_,_,_,_,_,_,_,_,A1,N1,C1,A2,N2,C2,_,_⟩,rfl,rfl,{ hR with hc := (hc.alloc #[.bool false,.slice none 0 0,.int .i64 0] 33),f6 := (fun _ => AlN.self rfl hc.sz rfl),f7 := (fun h => Bool.noConfusion (hR.g7_6 h)),g7_6 := (fun _ => rfl) }⟩
  ·obtain rfl : b7 = false := by simpa using hl9
   obtain ⟨o9,ho9,hd9⟩ := (mem_ready.1 hi9).2
   cases ho9
   have e4 : b4 = true := hd9 ⟨4,.data⟩ (by simp) rfl
   have e6 : b6 = true := hd9 ⟨6,.data⟩ (by simp) rfl
   subst e4 e6
   obtain rfl : b2 = true := hR.g4_2 rfl
   have q2 := hR.f2 rfl
   obtain ⟨h9,q2m⟩ := q2
   subst h9
   obtain rfl : b1 = true := hR.g4_1 rfl
   have q1 := hR.f1 rfl
   obtain ⟨h9,q1m⟩ := q1
   subst h9
   have h9 := hR.f4 rfl
   subst h9
   have hc := hR.hc
   obtain ⟨g9,cs9,h9,hg9,hz9,hm9⟩ := hR.f6 rfl
   subst h9
   obtain ⟨y9_0,y9_1,y9_2,rfl⟩ : ∃ y9_0 y9_1 y9_2,cs9 = #[y9_0,y9_1,y9_2] := by
    match cs9,hz9 with
    | ⟨[y9_0,y9_1,y9_2]⟩,_ => exact ⟨y9_0,y9_1,y9_2,rfl⟩
   clear hz9
   have fz9_0 := hc.st.frozen hm9 0
   have cz9_0 := hc.st.cellAt hm9 0 y9_0 rfl
   simp only [] at fz9_0 cz9_0
   have fz9_1 := hc.st.frozen hm9 1
   have cz9_1 := hc.st.cellAt hm9 1 y9_1 rfl
   simp only [] at fz9_1 cz9_1
   have fz9_2 := hc.st.frozen hm9 2
   have cz9_2 := hc.st.cellAt hm9 2 y9_2 rfl
   simp only [] at fz9_2 cz9_2
   have hn9 : ∀ x,x ∈ ([⟨w1.heap.size,#[.bool r1,.slice AQ NQ CQ,.int .i64 z1],33⟩,⟨w.heap.size + 1 + 1,#[.bool false,.slice none 0 0,.int .i64 0],33⟩] : List En) → x.b ≠ g9 := fun x hx => by have := (hc.old x hx).2; omega
   refine wpOp_step rfl fun K hK => ?_
   go_simp
   exact hK _ _ ⟨⟨_,_,_,_,_,_,_,_,_,_,_,_,_,_,_,_,_,A1,N1,C1,A2,N2,C2,_,_⟩,rfl,rfl,{ hR with hc := (((hc.store hm9 (by have := hc.w0s; omega) hn9 0 (.bool rr) (by simp)).store (List.mem_cons_self ..) (by have := hc.w0s; omega) hn9 1 (.slice A2 N2 C2) (by simp)).store (List.mem_cons_self ..) (by have := hc.w0s; omega) hn9 2 (.int .i64 yy) (by simp)),f6 := (fun _ => ⟨g9,_,rfl,hg9,by simp,List.mem_cons_self ..⟩),f7 := (fun _ => ⟨g9,rfl,hg9,List.mem_cons_self ..⟩),g7_6 := (fun _ => rfl),g7_4 := (fun _ => rfl),g7_2 := (fun _ => rfl),g7_1 := (fun _ => rfl) }⟩
  ·obtain rfl : b8 = false := by simpa using hl9
   obtain ⟨o9,ho9,hd9⟩ := (mem_ready.1 hi9).2
   cases ho9
   have e5 : b5 = true := hd9 ⟨5,.data⟩ (by simp) rfl
   subst e5
   obtain rfl : b2 = true := hR.g5_2 rfl
   have q2 := hR.f2 rfl
   obtain ⟨h9,q2m⟩ := q2
   subst h9
   obtain rfl : b1 = true := hR.g5_1 rfl
   have q1 := hR.f1 rfl
   obtain ⟨h9,q1m⟩ := q1
   subst h9
   have h9 := hR.f5 rfl
   subst h9
   have hc := hR.hc
   refine wpOp_step rfl fun K hK => ?_
   go_simp
   exact hK _ _ ⟨⟨_,_,_,_,_,_,_,_,_,_,_,_,_,_,_,_,_,A1,N1,C1,A2,N2,C2,_,_⟩,rfl,rfl,{ hR with hc := hc,f8 := (fun _ => rfl),g8_2 := (fun _ => rfl),g8_1 := (fun _ => rfl) }⟩
 ·rintro l act Wq2 ⟨⟨b0,b1,b2,b3,b4,b5,b6,b7,b8,v0,v1,v2,v3,v4,v5,v6,v8,x2_A1,x2_N1,x2_C1,x2_A2,x2_N2,x2_C2,bs9,os9⟩,rfl,rfl,hR⟩ hr9
  obtain ⟨hc,f0,f1,f2,f3,f4,f5,f6,f7,f8,g2_1,g3_2,g3_1,g4_2,g4_1,g5_2,g5_1,g7_6,g7_4,g7_2,g7_1,g8_2,g8_1⟩ := hR
  have eall := all_done hr9 (by kernel_rfl) rfl
  obtain rfl : b0 = true := eall 0 (by decide)
  obtain rfl : b1 = true := eall 1 (by decide)
  obtain rfl : b2 = true := eall 2 (by decide)
  obtain rfl : b3 = true := eall 3 (by decide)
  obtain rfl : b4 = true := eall 4 (by decide)
  obtain rfl : b5 = true := eall 5 (by decide)
  obtain rfl : b6 = true := eall 6 (by decide)
  obtain rfl : b7 = true := eall 7 (by decide)
  obtain rfl : b8 = true := eall 8 (by decide)
  clear hr9 eall
  have h9 := f0 rfl
  subst h9
  obtain ⟨h9,q1m⟩ := f1 rfl
  subst h9
  obtain ⟨h9,q2m⟩ := f2 rfl
  subst h9
  have h9 := f3 rfl
  subst h9
  have h9 := f4 rfl
  subst h9
  have h9 := f5 rfl
  subst h9
  obtain ⟨x2_g6,h9,hg6,hm6⟩ := f7 rfl
  subst h9
  have h9 := f8 rfl
  subst h9
  have hbs9 : ∀ x,x ∈ ([⟨x2_g6,#[.bool rr,.slice x2_A2 x2_N2 x2_C2,.int .i64 yy],33⟩,⟨w1.heap.size,#[.bool r1,.slice AQ NQ CQ,.int .i64 z1],33⟩,⟨w.heap.size + 1 + 1,#[.bool false,.slice none 0 0,.int .i64 0],33⟩] : List En) → x ∈ bs9 := by
   intro x hx
   rcases List.mem_cons.1 hx with rfl | hx
   ·exact hm6
   rcases List.mem_cons.1 hx with rfl | hx
   ·exact (hc.old _ (by simp)).1
   rcases List.mem_cons.1 hx with rfl | hx
   ·exact (hc.old _ (by simp)).1
   exact absurd hx List.not_mem_nil
  have hos9 : ∀ x,x ∈ ([(x2_A1,x2_N1,x2_C1,1),(x2_A2,x2_N2,x2_C2,vv),(AQ,NQ,CQ,u1)] : Os) → x ∈ os9 := by
   intro x hx
   rcases List.mem_cons.1 hx with rfl | hx
   ·exact q1m
   rcases List.mem_cons.1 hx with rfl | hx
   ·exact q2m
   rcases List.mem_cons.1 hx with rfl | hx
   ·exact hc.oso _ (by simp)
   exact absurd hx List.not_mem_nil
  have hS := hc.st.sub hbs9 (fun x hx => hx) hos9
  have hsz9 := hc.sz
  rw [hS9z,hsW9] at hsz9
  have hlx2_g6 := hg6
  rw [hS9z,hsW9] at hlx2_g6
  have hux2_g6 := block_lt (hc.st.bx _ hm6).1
  simp only [] at hux2_g6
  clear hbs9 hos9 hc f0 f1 f2 f3 f4 f5 f6 f7 f8 g2_1 g3_2 g3_1 g4_2 g4_1 g5_2 g5_1 g7_6 g7_4 g7_2 g7_1 g8_2 g8_1
  clear q1m q2m hm6 hg6
  have hz2 := hsz9
  clear hsz9 hS9z hS9 hC9 hsW9
  obtain ⟨⟨k0_0,k0_1,k0_2,-⟩,z0⟩ := hS.cz ⟨x2_g6,#[.bool rr,.slice x2_A2 x2_N2 x2_C2,.int .i64 yy],33⟩ (by simp)
  have z0_0 := z0 0
  have z0_1 := z0 1
  have z0_2 := z0 2
  clear z0
  obtain ⟨⟨k1_0,k1_1,k1_2,-⟩,z1⟩ := hS.cz ⟨w.heap.size + 1 + 1,#[.bool false,.slice none 0 0,.int .i64 0],33⟩ (by simp)
  have z1_0 := z1 0
  have z1_1 := z1 1
  have z1_2 := z1 2
  clear z1
  simp only [] at k0_0 z0_0 k0_1 z0_1 k0_2 z0_2 k1_0 z1_0 k1_1 z1_1 k1_2 z1_2
  go_wp2
  have u1 := hS.cellAt (x := ⟨w.heap.size + 1 + 1,#[.bool false,.slice none 0 0,.int .i64 0],33⟩) (by simp) 0 (.bool false) rfl
  have y1 := hS.frozen (x := ⟨w.heap.size + 1 + 1,#[.bool false,.slice none 0 0,.int .i64 0],33⟩) (by simp) 0
  simp only [] at u1 y1
  replace hS := hS.put (x := ⟨w.heap.size + 1 + 1,#[.bool false,.slice none 0 0,.int .i64 0],33⟩) (by simp) (by simp only []; omega) 0 (.bool rr) (by simp) [⟨w.heap.size + 1 + 1,#[.bool rr,.slice none 0 0,.int .i64 0],33⟩,⟨x2_g6,#[.bool rr,.slice x2_A2 x2_N2 x2_C2,.int .i64 yy],33⟩,⟨w1.heap.size,#[.bool r1,.slice AQ NQ CQ,.int .i64 z1],33⟩] (by intro y hy; rcases List.mem_cons.1 hy with rfl | hy; exact Or.inl rfl; rcases List.mem_cons.1 hy with rfl | hy; exact Or.inr ⟨by simp,by simp only []; omega⟩; rcases List.mem_cons.1 hy with rfl | hy; exact Or.inr ⟨by simp,by simp only []; omega⟩; exact absurd hy List.not_mem_nil)
  have u2 := hS.cellAt (x := ⟨w.heap.size + 1 + 1,#[.bool rr,.slice none 0 0,.int .i64 0],33⟩) (by simp) 1 (.slice none 0 0) rfl
  have y2 := hS.frozen (x := ⟨w.heap.size + 1 + 1,#[.bool rr,.slice none 0 0,.int .i64 0],33⟩) (by simp) 1
  simp only [] at u2 y2
  replace hS := hS.put (x := ⟨w.heap.size + 1 + 1,#[.bool rr,.slice none 0 0,.int .i64 0],33⟩) (by simp) (by simp only []; omega) 1 (.slice x2_A2 x2_N2 x2_C2) (by simp) [⟨w.heap.size + 1 + 1,#[.bool rr,.slice x2_A2 x2_N2 x2_C2,.int .i64 0],33⟩,⟨x2_g6,#[.bool rr,.slice x2_A2 x2_N2 x2_C2,.int .i64 yy],33⟩,⟨w1.heap.size,#[.bool r1,.slice AQ NQ CQ,.int .i64 z1],33⟩] (by intro y hy; rcases List.mem_cons.1 hy with rfl | hy; exact Or.inl rfl; rcases List.mem_cons.1 hy with rfl | hy; exact Or.inr ⟨by simp,by simp only []; omega⟩; rcases List.mem_cons.1 hy with rfl | hy; exact Or.inr ⟨by simp,by simp only []; omega⟩; exact absurd hy List.not_mem_nil)
  have u3 := hS.cellAt (x := ⟨w.heap.size + 1 + 1,#[.bool rr,.slice x2_A2 x2_N2 x2_C2,.int .i64 0],33⟩) (by simp) 2 (.int .i64 0) rfl
  have y3 := hS.frozen (x := ⟨w.heap.size + 1 + 1,#[.bool rr,.slice x2_A2 x2_N2 x2_C2,.int .i64 0],33⟩) (by simp) 2
  simp only [] at u3 y3
  replace hS := hS.put (x := ⟨w.heap.size + 1 + 1,#[.bool rr,.slice x2_A2 x2_N2 x2_C2,.int .i64 0],33⟩) (by simp) (by simp only []; omega) 2 (.int .i64 yy) (by simp) [⟨w.heap.size + 1 + 1,#[.bool rr,.slice x2_A2 x2_N2 x2_C2,.int .i64 yy],33⟩,⟨x2_g6,#[.bool rr,.slice x2_A2 x2_N2 x2_C2,.int .i64 yy],33⟩,⟨w1.heap.size,#[.bool r1,.slice AQ NQ CQ,.int .i64 z1],33⟩] (by intro y hy; rcases List.mem_cons.1 hy with rfl | hy; exact Or.inl rfl; rcases List.mem_cons.1 hy with rfl | hy; exact Or.inr ⟨by simp,by simp only []; omega⟩; rcases List.mem_cons.1 hy with rfl | hy; exact Or.inr ⟨by simp,by simp only []; omega⟩; exact absurd hy List.not_mem_nil)
  exact bodyPost_ret (v := .agg #[.bool rr,.slice x2_A2 x2_N2 x2_C2,.int .i64 yy]) (by simp [results,Tryz.results69,go_sem,k1_0,k1_1,k1_2]) rfl ⟨⟨_,_,_,rfl,hS.ow (x2_A2,x2_N2,x2_C2,vv) (by simp)⟩,hS.fr⟩
 ·simp
 ·exact ⟨⟨false,false,false,false,false,false,false,false,false,undef,undef,undef,undef,undef,undef,undef,undef,none,0,0,none,0,0,_,_⟩,rfl,rfl,⟨hC9,nb,nb,nb,nb,nb,nb,nb,nb,nb,nb,nb,nb,nb,nb,nb,nb,nb,nb,nb,nb,nb,nb⟩⟩
end Go.Proofs.YtkebhccbhoamjaaGreatDoor
