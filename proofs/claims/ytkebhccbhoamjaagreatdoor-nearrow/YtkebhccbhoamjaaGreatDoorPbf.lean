/- Of what NearRowRow stands on: ExRat NrFin NrRdy NrReach NrMidR. -/
import Derived.Test.YtkebhccbhoamjaaGreatDoorPau
import Derived.Test.YtkebhccbhoamjaaGreatDoorPaz
import Derived.Test.YtkebhccbhoamjaaGreatDoorPbc
import Derived.Test.YtkebhccbhoamjaaGreatDoorPbb
import Derived.Test.YtkebhccbhoamjaaGreatDoorPax
import Derived.Test.YtkebhccbhoamjaaGreatDoorPbd
import Derived.Test.YtkebhccbhoamjaaGreatDoorPaw
import Derived.Test.YtkebhccbhoamjaaGreatDoorPbe
namespace Go.Proofs.YtkebhccbhoamjaaGreatDoor
open Go.RowKit
set_option maxHeartbeats 4000000
set_option maxRecDepth 20000
structure Xrok3S where
 (b0 b1 b2 b3 b4 b5 b6 b7 b8 b9 b10 b11 : Bool)
 (v0 v1 v2 v3 v4 v5 v6 v7 v8 v9 v11 : Value)
 (A0 : Option Addr)
 (N0 C0 : Nat)
 (A5 : Option Addr)
 (N5 C5 : Nat)
 bs9 : List En
 os9 : Os
structure Xrok3R (w : World) (s : Bool) (a : Option Addr) (n cap m : Nat) (z : Int) (i j V M : Nat) (er : Int) (yA2 : Option Addr) (yN2 yC2 : Nat) (w2 : World) (S9 : Nat) (b0 b1 b2 b3 b4 b5 b6 b7 b8 b9 b10 b11 : Bool) (v0 v1 v2 v3 v4 v5 v6 v7 v8 v9 v11 : Value) (A0 : Option Addr) (N0 C0 : Nat) (A5 : Option Addr) (N5 C5 : Nat) (bs9 : List En) (os9 : Os) (w' : World) : Prop where
 hc : Rc w S9 [⟨w2.heap.size,#[.slice yA2 yN2 yC2],31⟩,⟨w.heap.size + 1,#[.bool false,.slice none 0 0,.slice none 0 0],48⟩,⟨w.heap.size,#[.bool s,.slice a n cap,.int .i64 z],33⟩] [(a,n,m)] [(yA2,yN2,yC2,V)] none bs9 os9 w'
 f0 : b0 = true → v0 = .agg #[.slice A0 N0 C0] ∧ (A0,N0,C0,1) ∈ os9
 f1 : b1 = true → v1 = .pointer (some ⟨w.heap.size,2,none⟩)
 f2 : b2 = true → v2 = .int .i64 z
 f3 : b3 = true → v3 = .int .i64 (-z)
 f4 : b4 = true → v4 = .int .i64 j
 f5 : b5 = true → v5 = .tuple #[.agg #[.slice A5 N5 C5],.int .i64 er] ∧ (A5,N5,C5,M) ∈ os9
 f6 : b6 = true → v6 = .tuple #[.agg #[.slice A5 N5 C5],.int .i64 er]
 f7 : b7 = true → v7 = .agg #[.slice A5 N5 C5]
 f8 : b8 = true → v8 = .int .i64 er
 f9 : b9 = true → AlV bs9 S9 v9 31
 f10 : b10 = true → StV bs9 S9 v9 v7 31
 f11 : b11 = true → v11 = .int .i64 er
 g5_0 : b5 = true → b0 = true
 g6_5 : b6 = true → b5 = true
 g6_0 : b6 = true → b0 = true
 g7_5 : b7 = true → b5 = true
 g7_0 : b7 = true → b0 = true
 g8_5 : b8 = true → b5 = true
 g8_0 : b8 = true → b0 = true
 g10_9 : b10 = true → b9 = true
 g10_7 : b10 = true → b7 = true
 g10_5 : b10 = true → b5 = true
 g10_0 : b10 = true → b0 = true
 g11_5 : b11 = true → b5 = true
 g11_0 : b11 = true → b0 = true
def Xrok3I (w : World) (s : Bool) (a : Option Addr) (n cap m : Nat) (z : Int) (i j V M : Nat) (er : Int) (yA2 : Option Addr) (yN2 yC2 : Nat) (w2 : World) (S9 : Nat) (l : Array Bool) (act : Act) (w' : World) : Xrok3S → Prop
 | ⟨b0,b1,b2,b3,b4,b5,b6,b7,b8,b9,b10,b11,v0,v1,v2,v3,v4,v5,v6,v7,v8,v9,v11,A0,N0,C0,A5,N5,C5,bs9,os9⟩ => l = #[b0,b1,b2,b3,b4,b5,b6,b7,b8,b9,b10,b11] ∧ act = { tmps := #[.agg #[.bool s,.slice a n cap,.int .i64 z],.pointer (some ⟨w.heap.size,0,none⟩),.pointer (some ⟨w.heap.size + 1,0,none⟩),.int .i64 0,.int .i64 0,.pointer (some ⟨w2.heap.size,0,none⟩),v11,v9,.agg #[.bool s,.slice a n cap,.int .i64 z],.int .i64 0,.int .i64 0,.bool false,undef,undef,.tuple #[.agg #[.slice yA2 yN2 yC2],.int .i64 0],.pointer (some ⟨w.heap.size,1,none⟩),.agg #[.slice a n cap],.pointer (some ⟨w.heap.size,2,none⟩),.int .i64 z,.int .i64 i,.tuple #[.agg #[.slice yA2 yN2 yC2],.int .i64 0],.agg #[.slice yA2 yN2 yC2],.int .i64 0,.int .i64 0,.bool false,undef,undef,v6,v0,v1,v2,v3,v4,v5,v7,v8,undef,undef,undef,undef,undef,undef,undef,undef,undef],defers := [] } ∧ Xrok3R w s a n cap m z i j V M er yA2 yN2 yC2 w2 S9 b0 b1 b2 b3 b4 b5 b6 b7 b8 b9 b10 b11 v0 v1 v2 v3 v4 v5 v6 v7 v8 v9 v11 A0 N0 C0 A5 N5 C5 bs9 os9 w'
theorem xr_ok (w : World) (s : Bool) (a : Option Addr) (n cap m : Nat) (z : Int) (i j V M : Nat) (er : Int) (h : Num w a n m) (hx : -1073741824 ≤ z ∧ z ≤ 1073741824) (hi : max z 0 = (i : Int)) (hj : max (-z) 0 = (j : Int)) (her : er = 0) (HC : Hid (∀ (W : World) (A : Option Addr) (N C : Nat),Num W A N m → Calls Tryz.prog 131 #[.agg #[.bool s,.slice A N C,.int .i64 z]] W fun e w' => e = .returned (.int .i64 0) ∧ Below W.heap.size W w')) (HU : Hid (∀ (W : World) (A : Option Addr) (N C : Nat),Num W A N m → Calls Tryz.prog 132 #[.agg #[.slice A N C],.int .i64 (i : Int)] W fun en W' => (∃ a n c,en = .returned (.tuple #[.agg #[.slice a n c],.int .i64 0]) ∧ Mine W' W.heap.size a n c V) ∧ Below W.heap.size W W')) (HD : Hid (∀ (W : World) (A : Option Addr) (N C : Nat),Num W A N 1 → Calls Tryz.prog 132 #[.agg #[.slice A N C],.int .i64 (j : Int)] W fun en W' => (∃ a n c,en = .returned (.tuple #[.agg #[.slice a n c],.int .i64 er]) ∧ Mine W' W.heap.size a n c M) ∧ Below W.heap.size W W')) :
  Calls Tryz.prog 74 #[.agg #[.bool s,.slice a n cap,.int .i64 z]] w fun en w' => (∃ A N C A' N' C',en = .returned (.tuple #[.agg #[.bool s,.slice A N C,.slice A' N' C'],.int .i64 0]) ∧ Mine w' w.heap.size A N C V ∧ Mine w' w.heap.size A' N' C' M) ∧ Below w.heap.size w w' := by
 have her2 : (er != 0) = false := by simp [her]
 have HE := hide her
 clear her
 have hS := Rs.begin w
 replace hS := hS.num h
 replace hS := hS.alloc #[.bool s,.slice a n cap,.int .i64 z] 33
 try simp only [World.size_alloc] at hS
 replace hS := hS.alloc #[.bool false,.slice none 0 0,.slice none 0 0] 48
 try simp only [World.size_alloc] at hS
 go_enter Tryz.func74,Tryz.ntmps74
 go_wp2_with fail
 refine (unhide HC _ _ _ _ (hS.nm (a,n,m) (by simp))).mono ?_
 rintro en w1 ⟨rfl,hb9⟩
 have hz1 := hb9.size
 replace hS := hS.kept hb9
 clear hb9
 simp only [World.size_alloc] at hz1
 obtain ⟨⟨k0_0,k0_1,k0_2,-⟩,-⟩ := hS.cz ⟨w.heap.size,#[.bool s,.slice a n cap,.int .i64 z],33⟩ (by simp)
 simp only [] at k0_0 k0_1 k0_2
 go_wp2_with fail
 clear k0_0 k0_1 k0_2
 try rw [hi]
 refine (W_oft hS (unhide HU _ _ _ _ (hS.nm (a,n,m) (by simp)))).mono ?_
 clear hS; rintro en w2 ⟨yA2,yN2,yC2,rfl,hS,hz2⟩
 replace hS := hS.alloc #[.slice yA2 yN2 yC2] 31
 try simp only [World.size_alloc] at hS
 go_wp2_with fail
 refine wp_region_any (by kernel_rfl) ?_
 change wpAny _ _ _ _ _ _ _ (World.drew _)
 have hS9 := hS.drew
 have hsW9 : (World.drew (w2.alloc (.cells #[.slice yA2 yN2 yC2] 31))).heap.size = w2.heap.size + 1 := by first | rfl | simp
 generalize World.drew (w2.alloc (.cells #[.slice yA2 yN2 yC2] 31)) = Wd at hS9 hsW9 ⊢
 obtain ⟨S9,hS9z⟩ : ∃ x,x = Wd.heap.size := ⟨_,rfl⟩
 have hC9 := Rc.start (bs := [⟨w2.heap.size,#[.slice yA2 yN2 yC2],31⟩,⟨w.heap.size + 1,#[.bool false,.slice none 0 0,.slice none 0 0],48⟩,⟨w.heap.size,#[.bool s,.slice a n cap,.int .i64 z],33⟩]) hS9 (by simp)
 rw [← hS9z] at hC9
 refine wpAny_inv (fun l act w' => ∃ σ,Xrok3I w s a n cap m z i j V M er yA2 yN2 yC2 w2 S9 l act w' σ) ?_ ?_ _ _ _ _ ?_ ?_
 ·intro l act w' i9 hI9 hi9 hl9
  have hin9 : i9 < 12 := by
   by_cases h : i9 < 12
   ·exact h
   ·obtain ⟨⟨⟩,rfl,_⟩ := hI9
    rw [Array.getElem?_eq_none (by simp; omega)] at hl9; cases hl9
  have hcase : i9 = 0 ∨ i9 = 1 ∨ i9 = 2 ∨ i9 = 3 ∨ i9 = 4 ∨ i9 = 5 ∨ i9 = 6 ∨ i9 = 7 ∨ i9 = 8 ∨ i9 = 9 ∨ i9 = 10 ∨ i9 = 11 := by omega
  clear hin9
  obtain ⟨⟨b0,b1,b2,b3,b4,b5,b6,b7,b8,b9,b10,b11,v0,v1,v2,v3,v4,v5,v6,v7,v8,v9,v11,A0,N0,C0,A5,N5,C5,bs9,os9⟩,rfl,rfl,hR⟩ := hI9
  rcases hcase with rfl | rfl | rfl | rfl | rfl | rfl | rfl | rfl | rfl | rfl | rfl | rfl
  ·obtain rfl : b0 = false := by simpa using hl9
   have hc := hR.hc
   have HR := hide hR
   clear hR
   refine wpOp_step rfl fun K hK => ?_
   go_simp
   go_wp2_with fail
   refine (W_of hc.st 1 (by omega)).mono ?_
   rintro en w9 ⟨a9,n9,c9,rfl,hs9,hz9⟩
   have hR := unhide HR
   exact hK _ _ ⟨⟨_,_,_,_,_,_,_,_,_,_,_,_,_,_,_,_,_,_,_,_,_,_,_,_,_,_,A5,N5,C5,_,_⟩,rfl,rfl,{ hR with hc := (hc.call hs9 hz9 (fun y hy => List.mem_cons_of_mem _ hy)),f0 := (fun _ => ⟨rfl,List.mem_cons_self ..⟩),f5 := (fun h => Bool.noConfusion (hR.g5_0 h)),f6 := (fun h => Bool.noConfusion (hR.g6_0 h)),f7 := (fun h => Bool.noConfusion (hR.g7_0 h)),f8 := (fun h => Bool.noConfusion (hR.g8_0 h)),f10 := (fun h => Bool.noConfusion (hR.g10_0 h)),f11 := (fun h => Bool.noConfusion (hR.g11_0 h)),g5_0 := (fun _ => rfl),g6_0 := (fun _ => rfl),g7_0 := (fun _ => rfl),g8_0 := (fun _ => rfl),g10_0 := (fun _ => rfl),g11_0 := (fun _ => rfl) }⟩
  ·obtain rfl : b1 = false := by simpa using hl9
   have hc := hR.hc
   refine wpOp_step rfl fun K hK => ?_
   go_simp
   exact hK _ _ ⟨⟨_,_,_,_,_,_,_,_,_,_,_,_,_,_,_,_,_,_,_,_,_,_,_,A0,N0,C0,A5,N5,C5,_,_⟩,rfl,rfl,{ hR with hc := hc,f1 := (fun _ => rfl) }⟩
  ·obtain rfl : b2 = false := by simpa using hl9
   obtain ⟨o9,ho9,hd9⟩ := (mem_ready.1 hi9).2
   cases ho9
   have e1 : b1 = true := hd9 ⟨1,.data⟩ (by simp) rfl
   subst e1
   have h9 := hR.f1 rfl
   subst h9
   have hc := hR.hc
   have c9_0 := hc.st.cellAt (hc.old ⟨w.heap.size,#[.bool s,.slice a n cap,.int .i64 z],33⟩ (by simp)).1 2 (.int .i64 z) rfl
   simp only [] at c9_0
   refine wpOp_step rfl fun K hK => ?_
   go_simp
   exact hK _ _ ⟨⟨_,_,_,_,_,_,_,_,_,_,_,_,_,_,_,_,_,_,_,_,_,_,_,A0,N0,C0,A5,N5,C5,_,_⟩,rfl,rfl,{ hR with hc := hc,f2 := (fun _ => rfl) }⟩
  ·obtain rfl : b3 = false := by simpa using hl9
   obtain ⟨o9,ho9,hd9⟩ := (mem_ready.1 hi9).2
   cases ho9
   have e2 : b2 = true := hd9 ⟨2,.data⟩ (by simp) rfl
   subst e2
   have h9 := hR.f2 rfl
   subst h9
   have hc := hR.hc
   refine wpOp_step rfl fun K hK => ?_
   go_simp
   exact hK _ _ ⟨⟨_,_,_,_,_,_,_,_,_,_,_,_,_,_,_,_,_,_,_,_,_,_,_,A0,N0,C0,A5,N5,C5,_,_⟩,rfl,rfl,{ hR with hc := hc,f3 := (fun _ => by first | rfl | (show Value.int _ _ = Value.int _ _; congr 1; rw [IntKind.wrap_i64]; omega)) }⟩
  ·obtain rfl : b4 = false := by simpa using hl9
   obtain ⟨o9,ho9,hd9⟩ := (mem_ready.1 hi9).2
   cases ho9
   have e3 : b3 = true := hd9 ⟨3,.data⟩ (by simp) rfl
   subst e3
   have h9 := hR.f3 rfl
   subst h9
   have hc := hR.hc
   refine wpOp_step rfl fun K hK => ?_
   go_simp
   exact hK _ _ ⟨⟨_,_,_,_,_,_,_,_,_,_,_,_,_,_,_,_,_,_,_,_,_,_,_,A0,N0,C0,A5,N5,C5,_,_⟩,rfl,rfl,{ hR with hc := hc,f4 := (fun _ => by first | rfl | (rw [hj]) | simp [hj] | (congr 1)) }⟩
  ·obtain rfl : b5 = false := by simpa using hl9
   obtain ⟨o9,ho9,hd9⟩ := (mem_ready.1 hi9).2
   cases ho9
   have e0 : b0 = true := hd9 ⟨0,.data⟩ (by simp) rfl
   have e4 : b4 = true := hd9 ⟨4,.data⟩ (by simp) rfl
   subst e0 e4
   have q0 := hR.f0 rfl
   obtain ⟨h9,q0m⟩ := q0
   subst h9
   have h9 := hR.f4 rfl
   subst h9
   have hc := hR.hc
   have HR := hide hR
   clear hR
   refine wpOp_step rfl fun K hK => ?_
   go_simp
   go_wp2_with fail
   refine (W_oft hc.st (unhide HD _ _ _ _ (hc.st.ow _ q0m).num)).mono ?_
   rintro en w9 ⟨a9,n9,c9,rfl,hs9,hz9⟩
   have hR := unhide HR
   exact hK _ _ ⟨⟨_,_,_,_,_,_,_,_,_,_,_,_,_,_,_,_,_,_,_,_,_,_,_,A0,N0,C0,_,_,_,_,_⟩,rfl,rfl,{ hR with hc := (hc.call hs9 hz9 (fun y hy => List.mem_cons_of_mem _ hy)),f0 := (fun h => ⟨(hR.f0 h).1,List.mem_cons_of_mem _ (hR.f0 h).2⟩),f5 := (fun _ => ⟨rfl,List.mem_cons_self ..⟩),f6 := (fun h => Bool.noConfusion (hR.g6_5 h)),f7 := (fun h => Bool.noConfusion (hR.g7_5 h)),f8 := (fun h => Bool.noConfusion (hR.g8_5 h)),f10 := (fun h => Bool.noConfusion (hR.g10_5 h)),f11 := (fun h => Bool.noConfusion (hR.g11_5 h)),g5_0 := (fun _ => rfl),g6_5 := (fun _ => rfl),g7_5 := (fun _ => rfl),g8_5 := (fun _ => rfl),g10_5 := (fun _ => rfl),g11_5 := (fun _ => rfl) }⟩
  ·obtain rfl : b6 = false := by simpa using hl9
   obtain ⟨o9,ho9,hd9⟩ := (mem_ready.1 hi9).2
   cases ho9
   have e5 : b5 = true := hd9 ⟨5,.data⟩ (by simp) rfl
   subst e5
   have q5 := hR.f5 rfl
   obtain ⟨h9,q5m⟩ := q5
   subst h9
   have hc := hR.hc
   refine wpOp_step rfl fun K hK => ?_
   go_simp
   exact hK _ _ ⟨⟨_,_,_,_,_,_,_,_,_,_,_,_,_,_,_,_,_,_,_,_,_,_,_,A0,N0,C0,A5,N5,C5,_,_⟩,rfl,rfl,{ hR with hc := hc,f6 := (fun _ => rfl),g6_5 := (fun _ => rfl),g6_0 := (fun _ => hR.g5_0 rfl) }⟩
  ·obtain rfl : b7 = false := by simpa using hl9
   obtain ⟨o9,ho9,hd9⟩ := (mem_ready.1 hi9).2
   cases ho9
   have e6 : b6 = true := hd9 ⟨6,.data⟩ (by simp) rfl
   subst e6
   obtain rfl : b5 = true := hR.g6_5 rfl
   have q5 := hR.f5 rfl
   obtain ⟨h9,q5m⟩ := q5
   subst h9
   obtain rfl : b0 = true := hR.g6_0 rfl
   have q0 := hR.f0 rfl
   obtain ⟨h9,q0m⟩ := q0
   subst h9
   have h9 := hR.f6 rfl
   subst h9
   have hc := hR.hc
   refine wpOp_step rfl fun K hK => ?_
   go_simp
   exact hK _ _ ⟨⟨_,_,_,_,_,_,_,_,_,_,_,_,_,_,_,_,_,_,_,_,_,_,_,A0,N0,C0,A5,N5,C5,_,_⟩,rfl,rfl,{ hR with hc := hc,f7 := (fun _ => rfl),f10 := (fun h => Bool.noConfusion (hR.g10_7 h)),g7_5 := (fun _ => rfl),g7_0 := (fun _ => rfl),g10_7 := (fun _ => rfl) }⟩
  ·obtain rfl : b8 = false := by simpa using hl9
   obtain ⟨o9,ho9,hd9⟩ := (mem_ready.1 hi9).2
   cases ho9
   have e6 : b6 = true := hd9 ⟨6,.data⟩ (by simp) rfl
   subst e6
   obtain rfl : b5 = true := hR.g6_5 rfl
   have q5 := hR.f5 rfl
   obtain ⟨h9,q5m⟩ := q5
   subst h9
   obtain rfl : b0 = true := hR.g6_0 rfl
   have q0 := hR.f0 rfl
   obtain ⟨h9,q0m⟩ := q0
   subst h9
   have h9 := hR.f6 rfl
   subst h9
   have hc := hR.hc
   refine wpOp_step rfl fun K hK => ?_
   go_simp
   exact hK _ _ ⟨⟨_,_,_,_,_,_,_,_,_,_,_,_,_,_,_,_,_,_,_,_,_,_,_,A0,N0,C0,A5,N5,C5,_,_⟩,rfl,rfl,{ hR with hc := hc,f8 := (fun _ => rfl),g8_5 := (fun _ => rfl),g8_0 := (fun _ => rfl) }⟩
  ·obtain rfl : b9 = false := by simpa using hl9
   have hc := hR.hc
   refine wpOp_step rfl fun K hK => ?_
   go_simp
   exact hK _ _ ⟨⟨_,_,_,_,_,_,_,_,_,_,_,_,_,_,_,_,_,_,_,_,_,_,_,A0,N0,C0,A5,N5,C5,_,_⟩,rfl,rfl,{ hR with hc := (hc.alloc #[.slice none 0 0] 31),f9 := (fun _ => AlV.self rfl hc.sz),f10 := (fun h => Bool.noConfusion (hR.g10_9 h)),g10_9 := (fun _ => rfl) }⟩
  ·obtain rfl : b10 = false := by simpa using hl9
   obtain ⟨o9,ho9,hd9⟩ := (mem_ready.1 hi9).2
   cases ho9
   have e7 : b7 = true := hd9 ⟨7,.data⟩ (by simp) rfl
   have e9 : b9 = true := hd9 ⟨9,.data⟩ (by simp) rfl
   subst e7 e9
   obtain rfl : b5 = true := hR.g7_5 rfl
   have q5 := hR.f5 rfl
   obtain ⟨h9,q5m⟩ := q5
   subst h9
   obtain rfl : b0 = true := hR.g7_0 rfl
   have q0 := hR.f0 rfl
   obtain ⟨h9,q0m⟩ := q0
   subst h9
   have h9 := hR.f7 rfl
   subst h9
   have hc := hR.hc
   obtain ⟨g9,s9,h9,hg9,hm9⟩ := hR.f9 rfl
   subst h9
   have fz9 := hc.st.frozen hm9 0
   have cz9 := hc.st.cellAt hm9 0 s9 rfl
   simp only [] at fz9 cz9
   have hn9 : ∀ x,x ∈ ([⟨w2.heap.size,#[.slice yA2 yN2 yC2],31⟩,⟨w.heap.size + 1,#[.bool false,.slice none 0 0,.slice none 0 0],48⟩,⟨w.heap.size,#[.bool s,.slice a n cap,.int .i64 z],33⟩] : List En) → x.b ≠ g9 := fun x hx => by have := (hc.old x hx).2; omega
   refine wpOp_step rfl fun K hK => ?_
   go_simp
   exact hK _ _ ⟨⟨_,_,_,_,_,_,_,_,_,_,_,_,_,_,_,_,_,_,_,_,_,_,_,A0,N0,C0,A5,N5,C5,_,_⟩,rfl,rfl,{ hR with hc := (hc.store hm9 (by have := hc.w0s; omega) hn9 0 (.slice A5 N5 C5) (by simp)),f9 := (fun _ => AlV.self rfl hg9),f10 := (fun _ => ⟨g9,_,rfl,hg9,rfl,List.mem_cons_self ..⟩),g10_9 := (fun _ => rfl),g10_7 := (fun _ => rfl),g10_5 := (fun _ => rfl),g10_0 := (fun _ => rfl) }⟩
  ·obtain rfl : b11 = false := by simpa using hl9
   obtain ⟨o9,ho9,hd9⟩ := (mem_ready.1 hi9).2
   cases ho9
   have e8 : b8 = true := hd9 ⟨8,.data⟩ (by simp) rfl
   subst e8
   obtain rfl : b5 = true := hR.g8_5 rfl
   have q5 := hR.f5 rfl
   obtain ⟨h9,q5m⟩ := q5
   subst h9
   obtain rfl : b0 = true := hR.g8_0 rfl
   have q0 := hR.f0 rfl
   obtain ⟨h9,q0m⟩ := q0
   subst h9
   have h9 := hR.f8 rfl
   subst h9
   have hc := hR.hc
   refine wpOp_step rfl fun K hK => ?_
   go_simp
   exact hK _ _ ⟨⟨_,_,_,_,_,_,_,_,_,_,_,_,_,_,_,_,_,_,_,_,_,_,_,A0,N0,C0,A5,N5,C5,_,_⟩,rfl,rfl,{ hR with hc := hc,f11 := (fun _ => rfl),g11_5 := (fun _ => rfl),g11_0 := (fun _ => rfl) }⟩
 ·rintro l act Wq3 ⟨⟨b0,b1,b2,b3,b4,b5,b6,b7,b8,b9,b10,b11,v0,v1,v2,v3,v4,v5,v6,v7,v8,v9,v11,x3_A0,x3_N0,x3_C0,x3_A5,x3_N5,x3_C5,bs9,os9⟩,rfl,rfl,hR⟩ hr9
  obtain ⟨hc,f0,f1,f2,f3,f4,f5,f6,f7,f8,f9,f10,f11,g5_0,g6_5,g6_0,g7_5,g7_0,g8_5,g8_0,g10_9,g10_7,g10_5,g10_0,g11_5,g11_0⟩ := hR
  have eall := all_done hr9 (by kernel_rfl) rfl
  obtain rfl : b0 = true := eall 0 (by decide)
  obtain rfl : b1 = true := eall 1 (by decide)
  obtain rfl : b2 = true := eall 2 (by decide)
  obtain rfl : b3 = true := eall 3 (by decide)
  obtain rfl : b4 = true := eall 4 (by decide)
  obtain rfl : b5 = true := eall 5 (by decide)
  obtain rfl : b6 = true := eall 6 (by decide)
  obtain rfl : b7 = true := eall 7 (by decide)
  obtain rfl : b8 = true := eall 8 (by decide)
  obtain rfl : b9 = true := eall 9 (by decide)
  obtain rfl : b10 = true := eall 10 (by decide)
  obtain rfl : b11 = true := eall 11 (by decide)
  clear hr9 eall
  obtain ⟨h9,q0m⟩ := f0 rfl
  subst h9
  have h9 := f1 rfl
  subst h9
  have h9 := f2 rfl
  subst h9
  have h9 := f3 rfl
  subst h9
  have h9 := f4 rfl
  subst h9
  obtain ⟨h9,q5m⟩ := f5 rfl
  subst h9
  have h9 := f6 rfl
  subst h9
  have h9 := f7 rfl
  subst h9
  have h9 := f8 rfl
  subst h9
  obtain ⟨x3_g9,s9,h9,hg9,hs9,hm9⟩ := f10 rfl
  subst h9
  obtain rfl : s9 = .slice x3_A5 x3_N5 x3_C5 := by simpa using hs9.symm
  clear hs9
  have h9 := f11 rfl
  subst h9
  have hbs9 : ∀ x,x ∈ ([⟨x3_g9,#[.slice x3_A5 x3_N5 x3_C5],31⟩,⟨w2.heap.size,#[.slice yA2 yN2 yC2],31⟩,⟨w.heap.size + 1,#[.bool false,.slice none 0 0,.slice none 0 0],48⟩,⟨w.heap.size,#[.bool s,.slice a n cap,.int .i64 z],33⟩] : List En) → x ∈ bs9 := by
   intro x hx
   rcases List.mem_cons.1 hx with rfl | hx
   ·exact hm9
   rcases List.mem_cons.1 hx with rfl | hx
   ·exact (hc.old _ (by simp)).1
   rcases List.mem_cons.1 hx with rfl | hx
   ·exact (hc.old _ (by simp)).1
   rcases List.mem_cons.1 hx with rfl | hx
   ·exact (hc.old _ (by simp)).1
   exact absurd hx List.not_mem_nil
  have hos9 : ∀ x,x ∈ ([(x3_A0,x3_N0,x3_C0,1),(x3_A5,x3_N5,x3_C5,M),(yA2,yN2,yC2,V)] : Os) → x ∈ os9 := by
   intro x hx
   rcases List.mem_cons.1 hx with rfl | hx
   ·exact q0m
   rcases List.mem_cons.1 hx with rfl | hx
   ·exact q5m
   rcases List.mem_cons.1 hx with rfl | hx
   ·exact hc.oso _ (by simp)
   exact absurd hx List.not_mem_nil
  have hS := hc.st.sub hbs9 (fun x hx => hx) hos9
  have hsz9 := hc.sz
  rw [hS9z,hsW9] at hsz9
  have hlx3_g9 := hg9
  rw [hS9z,hsW9] at hlx3_g9
  have hux3_g9 := block_lt (hc.st.bx _ hm9).1
  simp only [] at hux3_g9
  clear hbs9 hos9 hc f0 f1 f2 f3 f4 f5 f6 f7 f8 f9 f10 f11 g5_0 g6_5 g6_0 g7_5 g7_0 g8_5 g8_0 g10_9 g10_7 g10_5 g10_0 g11_5 g11_0
  clear q0m q5m hm9 hg9
  have hz3 := hsz9
  clear hsz9 hS9z hS9 hC9 hsW9
  obtain ⟨⟨k0_0,-⟩,z0⟩ := hS.cz ⟨x3_g9,#[.slice x3_A5 x3_N5 x3_C5],31⟩ (by simp)
  have z0_0 := z0 0
  clear z0
  obtain ⟨⟨k1_0,-⟩,z1⟩ := hS.cz ⟨w2.heap.size,#[.slice yA2 yN2 yC2],31⟩ (by simp)
  have z1_0 := z1 0
  clear z1
  obtain ⟨⟨k2_0,k2_1,k2_2,-⟩,z2⟩ := hS.cz ⟨w.heap.size + 1,#[.bool false,.slice none 0 0,.slice none 0 0],48⟩ (by simp)
  have z2_0 := z2 0
  have z2_1 := z2 1
  have z2_2 := z2 2
  clear z2
  obtain ⟨⟨k3_0,k3_1,k3_2,-⟩,z3⟩ := hS.cz ⟨w.heap.size,#[.bool s,.slice a n cap,.int .i64 z],33⟩ (by simp)
  have z3_0 := z3 0
  have z3_1 := z3 1
  have z3_2 := z3 2
  clear z3
  simp only [] at k0_0 z0_0 k1_0 z1_0 k2_0 z2_0 k2_1 z2_1 k2_2 z2_2 k3_0 z3_0 k3_1 z3_1 k3_2 z3_2
  go_wp2
  have u1 := hS.cellAt (x := ⟨w.heap.size + 1,#[.bool false,.slice none 0 0,.slice none 0 0],48⟩) (by simp) 0 (.bool false) rfl
  have y1 := hS.frozen (x := ⟨w.heap.size + 1,#[.bool false,.slice none 0 0,.slice none 0 0],48⟩) (by simp) 0
  simp only [] at u1 y1
  replace hS := hS.put (x := ⟨w.heap.size + 1,#[.bool false,.slice none 0 0,.slice none 0 0],48⟩) (by simp) (by simp only []; omega) 0 (.bool s) (by simp) [⟨w.heap.size + 1,#[.bool s,.slice none 0 0,.slice none 0 0],48⟩,⟨x3_g9,#[.slice x3_A5 x3_N5 x3_C5],31⟩,⟨w2.heap.size,#[.slice yA2 yN2 yC2],31⟩,⟨w.heap.size,#[.bool s,.slice a n cap,.int .i64 z],33⟩] (by intro y hy; rcases List.mem_cons.1 hy with rfl | hy; exact Or.inl rfl; rcases List.mem_cons.1 hy with rfl | hy; exact Or.inr ⟨by simp,by simp only []; omega⟩; rcases List.mem_cons.1 hy with rfl | hy; exact Or.inr ⟨by simp,by simp only []; omega⟩; rcases List.mem_cons.1 hy with rfl | hy; exact Or.inr ⟨by simp,by simp only []; omega⟩; exact absurd hy List.not_mem_nil)
  have u2 := hS.cellAt (x := ⟨w.heap.size + 1,#[.bool s,.slice none 0 0,.slice none 0 0],48⟩) (by simp) 1 (.slice none 0 0) rfl
  have y2 := hS.frozen (x := ⟨w.heap.size + 1,#[.bool s,.slice none 0 0,.slice none 0 0],48⟩) (by simp) 1
  simp only [] at u2 y2
  replace hS := hS.put (x := ⟨w.heap.size + 1,#[.bool s,.slice none 0 0,.slice none 0 0],48⟩) (by simp) (by simp only []; omega) 1 (.slice yA2 yN2 yC2) (by simp) [⟨w.heap.size + 1,#[.bool s,.slice yA2 yN2 yC2,.slice none 0 0],48⟩,⟨x3_g9,#[.slice x3_A5 x3_N5 x3_C5],31⟩,⟨w2.heap.size,#[.slice yA2 yN2 yC2],31⟩,⟨w.heap.size,#[.bool s,.slice a n cap,.int .i64 z],33⟩] (by intro y hy; rcases List.mem_cons.1 hy with rfl | hy; exact Or.inl rfl; rcases List.mem_cons.1 hy with rfl | hy; exact Or.inr ⟨by simp,by simp only []; omega⟩; rcases List.mem_cons.1 hy with rfl | hy; exact Or.inr ⟨by simp,by simp only []; omega⟩; rcases List.mem_cons.1 hy with rfl | hy; exact Or.inr ⟨by simp,by simp only []; omega⟩; exact absurd hy List.not_mem_nil)
  have u3 := hS.cellAt (x := ⟨w.heap.size + 1,#[.bool s,.slice yA2 yN2 yC2,.slice none 0 0],48⟩) (by simp) 2 (.slice none 0 0) rfl
  have y3 := hS.frozen (x := ⟨w.heap.size + 1,#[.bool s,.slice yA2 yN2 yC2,.slice none 0 0],48⟩) (by simp) 2
  simp only [] at u3 y3
  replace hS := hS.put (x := ⟨w.heap.size + 1,#[.bool s,.slice yA2 yN2 yC2,.slice none 0 0],48⟩) (by simp) (by simp only []; omega) 2 (.slice x3_A5 x3_N5 x3_C5) (by simp) [⟨w.heap.size + 1,#[.bool s,.slice yA2 yN2 yC2,.slice x3_A5 x3_N5 x3_C5],48⟩,⟨x3_g9,#[.slice x3_A5 x3_N5 x3_C5],31⟩,⟨w2.heap.size,#[.slice yA2 yN2 yC2],31⟩,⟨w.heap.size,#[.bool s,.slice a n cap,.int .i64 z],33⟩] (by intro y hy; rcases List.mem_cons.1 hy with rfl | hy; exact Or.inl rfl; rcases List.mem_cons.1 hy with rfl | hy; exact Or.inr ⟨by simp,by simp only []; omega⟩; rcases List.mem_cons.1 hy with rfl | hy; exact Or.inr ⟨by simp,by simp only []; omega⟩; rcases List.mem_cons.1 hy with rfl | hy; exact Or.inr ⟨by simp,by simp only []; omega⟩; exact absurd hy List.not_mem_nil)
  exact bodyPost_ret (v := .tuple #[.agg #[.bool s,.slice yA2 yN2 yC2,.slice x3_A5 x3_N5 x3_C5],.int .i64 0]) (by simp [results,Tryz.results74,go_sem,k2_0,k2_1,k2_2]) rfl ⟨⟨_,_,_,_,_,_,rfl,hS.ow (yA2,yN2,yC2,V) (by simp),hS.ow (x3_A5,x3_N5,x3_C5,M) (by simp)⟩,hS.fr⟩
 ·simp
 ·exact ⟨⟨false,false,false,false,false,false,false,false,false,false,false,false,undef,undef,undef,undef,undef,undef,undef,undef,undef,undef,.int .i64 0,none,0,0,none,0,0,_,_⟩,rfl,rfl,⟨hC9,nb,nb,nb,nb,nb,nb,nb,nb,nb,nb,nb,nb,nb,nb,nb,nb,nb,nb,nb,nb,nb,nb,nb,nb,nb⟩⟩
theorem mine_caps {w : World} {B : Nat} {a : Option Addr} {n c m : Nat} (h : Mine w B a n c m) : n ≤ c ∧ c ≤ 9223372036854775807 := by
 obtain ⟨xs,hn,ho,_⟩ := h
 obtain ⟨a',c',e,h1,h2,_⟩ := ho.lim
 cases e
 exact ⟨by omega,h2⟩
theorem mk1 (s : Bool) (k : Int) (hk : -1073741824 ≤ k ∧ k ≤ 1073741824) : Mk1 s k := fun W B A N C h hT => by
 have hc := mine_caps h
 have := make_ok s A N C 1 0 k W h.num (by decide) hT ⟨0,by decide⟩ (by decide) hc.1 hc.2 (by omega)
 rw [show k + ((0 : Nat) : Int) = k from by omega,show 1 / 2 ^ 0 = 1 from by decide] at this
 exact this
theorem vals_zero {E F B b : Nat} {s : Bool} (h0 : Fo E F) (HB : Hid (B = 2 ^ (E - 1) - 1)) (hB : Bt E F b s 0 0) : Vals E F b false 0 0 := fun W _ => by
 refine (Value_zero E F B b s W h0 HB hB).mono ?_
 rintro e w' ⟨rfl,hb⟩
 exact ⟨⟨none,0,0,rfl,mine_none _ _⟩,hb⟩
theorem vals_wo {E F B b ex fr M z : Nat} {s : Bool} {xe : Int} (h0 : Fo E F) (HB : Hid (B = 2 ^ (E - 1) - 1)) (hB : Bt E F b s ex fr) (hW : Wo E F B ex fr M z xe) : Vals E F b s (M / 2 ^ z) (xe + (z : Int)) := fun W hT =>
 Value_wo E F B b ex fr s M z xe W h0 HB hB hW hT
theorem nratio_ok {s : Bool} {m : Nat} {x : Int} (hA : OkD s m x) {i j : Nat} (hi : max x 0 = (i : Int)) (hj : max (-x) 0 = (j : Int)) (hV : ¬ Over (m * 2 ^ i)) (hM : ¬ Over (1 * 2 ^ j)) (W : World) (A : Option Addr) (N C : Nat) (g : Num W A N m) :
  Calls Tryz.prog 74 #[.agg #[.bool s,.slice A N C,.int .i64 x]] W fun e w' => (∃ A N C A' N' C',e = .returned (.tuple #[.agg #[.bool s,.slice A N C,.slice A' N' C'],.int .i64 0]) ∧ Mine w' W.heap.size A N C (m * 2 ^ i) ∧ Mine w' W.heap.size A' N' C' (1 * 2 ^ j)) ∧ Below W.heap.size W w' := by
 have hx : -1073741824 ≤ x ∧ x ≤ 1073741824 := by
  rcases hA with ⟨_,_,h⟩ | ⟨_,h⟩
  ·omega
  ·exact h
 have up : ∀ {u t : Nat},¬ Over (u * 2 ^ t) → t < 9223372036854775808 → ∀ (W : World) (A : Option Addr) (N C : Nat),Num W A N u → Calls Tryz.prog 132 #[.agg #[.slice A N C],.int .i64 (t : Int)] W fun en W' => (∃ a n c,en = .returned (.tuple #[.agg #[.slice a n c],.int .i64 0]) ∧ Mine W' W.heap.size a n c (u * 2 ^ t)) ∧ Below W.heap.size W W' := fun hn ht W A N C g => by
  refine (up_any A N C _ _ W g ht).mono ?_
  rintro e w' ⟨h1,hb⟩
  rcases h1 with h1 | ⟨_,h1⟩
  ·exact ⟨h1,hb⟩
  ·exact absurd h1 hn
 exact xr_ok W s A N C m x i j _ _ 0 g hx hi hj rfl (hide fun W A N C g => dcheck_dy s A N C m x W ⟨g,hA⟩) (hide (up hV (by omega))) (hide (up hM (by omega)))
theorem rdyadic_is (E F mode : Nat) (h0 : Fo E F) (hm : mode ≤ 4) (s : Bool) (a : Option Addr) (n cap m : Nat) (x : Int) (ng : Bool) (gb fl : Int) (w : World) (B : Nat) (h : Mine w B a n cap m) (HC : Hid (∀ W : World,Num W a n m → Calls Tryz.prog 131 #[.agg #[.bool s,.slice a n cap,.int .i64 x]] W fun e w' => e = .returned (.int .i64 0) ∧ Below W.heap.size W w')) (HR : Hid (∀ W : World,Mine W B a n cap m → Calls Tryz.prog 170 #[.agg #[.int .i64 E,.int .i64 F],.agg #[.bool s,.slice a n cap,.int .i64 x],.bool ng,.int .u8 (mode : Int)] W fun e w' => e = .returned (.tuple #[.int .u64 gb,.int .u8 fl,.int .i64 0]) ∧ Below W.heap.size W w')) :
  Calls Tryz.prog 134 #[.agg #[.int .i64 E,.int .i64 F],.agg #[.bool s,.slice a n cap,.int .i64 x],.bool ng,.int .u8 (mode : Int)] w fun e w' => e = .returned (.tuple #[.int .u64 gb,.int .u8 fl,.int .i64 0]) ∧ Below w.heap.size w w' := by
 have H := hide h
 clear h
 go_enter Tryz.func134,Tryz.ntmps134
 go_wp2_with fail
 refine (check_ok _ _ _ h0).mono ?_
 rintro e w1 ⟨rfl,hb1⟩
 have hS := (Fs.two w _ _ _ _).kept hb1
 obtain ⟨⟨ya,yb,-⟩,⟨yc,yd,ye,-⟩,-⟩ := hS.cells
 go_wp2_with fail
 refine (unhide HC _ ((unhide H).kept hS.fr).num).mono ?_
 rintro e w2 ⟨rfl,hb2⟩
 replace hS := hS.kept hb2
 clear ya yb yc yd ye
 obtain ⟨⟨yf,yg,-⟩,⟨yh,yi,yj,-⟩,-⟩ := hS.cells
 go_wp2_with fail
 refine (mode_ok mode hm _).mono ?_
 rintro e w3 ⟨rfl,hb3⟩
 replace hS := hS.kept hb3
 clear yf yg yh yi yj
 obtain ⟨⟨yk,yl,-⟩,⟨ym,yn,yo,-⟩,-⟩ := hS.cells
 go_wp2_with fail
 refine (unhide HR _ ((unhide H).kept hS.fr)).mono ?_
 rintro e w4 ⟨rfl,hb4⟩
 replace hS := hS.kept hb4
 clear yk yl ym yn yo
 obtain ⟨⟨yp,yq,-⟩,⟨yr,ys,yt,-⟩,-⟩ := hS.cells
 go_wp2
 go_ret3
 exact ⟨rfl,hS.fr⟩
structure Nre4S where
 (b0 b1 b2 b3 b4 b5 : Bool)
 (v0 v1 v2 v3 v4 v5 : Value)
 bs9 : List En
 os9 : Os
structure Nre4R (w : World) (E F b md : Int) (sl : Bool) (ml : Nat) (xl : Int) (sh : Bool) (mh : Nat) (xh : Int) (nl dl nh dh : Nat) (li hi : Bool) (str : ByteArray) (w2 : World) (w3 : World) (AL AH : Option Addr) (NL CL NH CH : Nat) (x3_A2 : Option Addr) (x3_N2 : Nat) (x3_C2 : Nat) (x3_P2 : Option Addr) (x3_Q2 : Nat) (x3_R2 : Nat) (x3_A8 : Option Addr) (x3_N8 : Nat) (x3_C8 : Nat) (x3_P8 : Option Addr) (x3_Q8 : Nat) (x3_R8 : Nat) (S9 : Nat) (b0 b1 b2 b3 b4 b5 : Bool) (v0 v1 v2 v3 v4 v5 : Value)  (bs9 : List En) (os9 : Os) (w' : World) : Prop where
 hc : Rc w S9 [⟨w.heap.size + 1 + 1,#[.bool sh,.slice x3_A8 x3_N8 x3_C8,.slice x3_P8 x3_Q8 x3_R8],48⟩,⟨w.heap.size + 1,#[.bool sl,.slice x3_A2 x3_N2 x3_C2,.slice x3_P2 x3_Q2 x3_R2],48⟩,⟨w3.heap.size + 1,#[.bool sh,.slice AH NH CH,.int .i64 xh],33⟩,⟨w3.heap.size,#[.bool sl,.slice AL NL CL,.int .i64 xl],33⟩,⟨w2.heap.size,#[.int .i64 E,.int .i64 F,.int .u64 b,.int .u8 md,.int .i64 0],109⟩] [] [(x3_A2,x3_N2,x3_C2,nl),(x3_P2,x3_Q2,x3_R2,dl),(x3_A8,x3_N8,x3_C8,nh),(x3_P8,x3_Q8,x3_R8,dh),(AH,NH,CH,mh),(AL,NL,CL,ml)] none bs9 os9 w'
 f0 : b0 = true → v0 = .agg #[.bool sl,.slice AL NL CL,.int .i64 xl]
 f1 : b1 = true → v1 = .bool li
 f2 : b2 = true → v2 = .agg #[.bool sh,.slice AH NH CH,.int .i64 xh]
 f3 : b3 = true → v3 = .bool hi
 f4 : b4 = true → v4 = .bool li
 f5 : b5 = true → v5 = .bool hi
def Nre4I (w : World) (E F b md : Int) (sl : Bool) (ml : Nat) (xl : Int) (sh : Bool) (mh : Nat) (xh : Int) (nl dl nh dh : Nat) (li hi : Bool) (str : ByteArray) (w2 : World) (w3 : World) (AL AH : Option Addr) (NL CL NH CH : Nat) (x3_A2 : Option Addr) (x3_N2 : Nat) (x3_C2 : Nat) (x3_P2 : Option Addr) (x3_Q2 : Nat) (x3_R2 : Nat) (x3_A8 : Option Addr) (x3_N8 : Nat) (x3_C8 : Nat) (x3_P8 : Option Addr) (x3_Q8 : Nat) (x3_R8 : Nat) (S9 : Nat) (l : Array Bool) (act : Act) (w' : World) : Nre4S → Prop
 | ⟨b0,b1,b2,b3,b4,b5,v0,v1,v2,v3,v4,v5,bs9,os9⟩ => l = #[b0,b1,b2,b3,b4,b5] ∧ act = { tmps := #[.agg #[.int .i64 E,.int .i64 F],.int .u64 b,.int .u8 md,.pointer (some ⟨w.heap.size,0,none⟩),undef,undef,.pointer (some ⟨w.heap.size + 1,0,none⟩),.pointer (some ⟨w.heap.size + 1 + 1,0,none⟩),v4,v5,.int .i64 0,.int .i64 0,.string str,.int .i64 0,.pointer (some ⟨w2.heap.size,0,none⟩),.pointer (some ⟨w3.heap.size,0,none⟩),.pointer (some ⟨w3.heap.size + 1,0,none⟩),.agg #[.int .i64 E,.int .i64 F],.int .u64 b,.slice (some ⟨w.heap.size + 1 + 1 + 1,0,none⟩) 1 1,.int .i64 0,.int .i64 0,.bool false,undef,undef,undef,.tuple #[.string str,.int .i64 0],.int .u8 md,.tuple #[.string str,.int .i64 0],.string str,.int .i64 0,.int .i64 0,.bool false,undef,undef,undef,.agg #[.int .i64 E,.int .i64 F],.int .u64 b,.int .u8 md,.agg #[.int .i64 E,.int .i64 F,.int .u64 b,.int .u8 md,.int .i64 0],.tuple #[.agg #[.bool sl,.slice AL NL CL,.int .i64 xl],.agg #[.bool sh,.slice AH NH CH,.int .i64 xh]],.tuple #[.agg #[.bool sl,.slice AL NL CL,.int .i64 xl],.agg #[.bool sh,.slice AH NH CH,.int .i64 xh]],.agg #[.bool sl,.slice AL NL CL,.int .i64 xl],.agg #[.bool sh,.slice AH NH CH,.int .i64 xh],.pointer (some ⟨w2.heap.size,4,none⟩),.agg #[.bool sl,.slice AL NL CL,.int .i64 xl],.tuple #[.agg #[.bool sl,.slice x3_A2 x3_N2 x3_C2,.slice x3_P2 x3_Q2 x3_R2],.int .i64 0],.agg #[.bool sl,.slice x3_A2 x3_N2 x3_C2,.slice x3_P2 x3_Q2 x3_R2],.int .i64 0,.agg #[.bool sl,.slice x3_A2 x3_N2 x3_C2,.slice x3_P2 x3_Q2 x3_R2],.pointer (some ⟨w2.heap.size,4,none⟩),.agg #[.bool sh,.slice AH NH CH,.int .i64 xh],.tuple #[.agg #[.bool sh,.slice x3_A8 x3_N8 x3_C8,.slice x3_P8 x3_Q8 x3_R8],.int .i64 0],.agg #[.bool sh,.slice x3_A8 x3_N8 x3_C8,.slice x3_P8 x3_Q8 x3_R8],.int .i64 0,.agg #[.bool sh,.slice x3_A8 x3_N8 x3_C8,.slice x3_P8 x3_Q8 x3_R8],v0,v1,v2,v3,undef,undef,undef,undef,undef,undef,undef,undef,undef,undef,undef,undef,undef],defers := [] } ∧ Nre4R w E F b md sl ml xl sh mh xh nl dl nh dh li hi str w2 w3 AL AH NL CL NH CH x3_A2 x3_N2 x3_C2 x3_P2 x3_Q2 x3_R2 x3_A8 x3_N8 x3_C8 x3_P8 x3_Q8 x3_R8 S9 b0 b1 b2 b3 b4 b5 v0 v1 v2 v3 v4 v5 bs9 os9 w'
structure Nre3S where
 (b0 b1 b2 b3 b4 b5 b6 b7 b8 b9 b10 b11 b12 b13 : Bool)
 (v0 v1 v2 v3 v4 v5 v6 v7 v8 v9 v10 v11 : Value)
 (A2 : Option Addr)
 (N2 C2 : Nat)
 (P2 : Option Addr) (Q2 R2 : Nat)
 (A8 : Option Addr)
 (N8 C8 : Nat)
 (P8 : Option Addr) (Q8 R8 : Nat)
 bs9 : List En
 os9 : Os
structure Nre3R (w : World) (E F b md : Int) (sl : Bool) (ml : Nat) (xl : Int) (sh : Bool) (mh : Nat) (xh : Int) (nl dl nh dh : Nat) (str : ByteArray) (w2 : World) (w3 : World) (AL AH : Option Addr) (NL CL NH CH : Nat) (S9 : Nat) (b0 b1 b2 b3 b4 b5 b6 b7 b8 b9 b10 b11 b12 b13 : Bool) (v0 v1 v2 v3 v4 v5 v6 v7 v8 v9 v10 v11 : Value) (A2 : Option Addr) (N2 C2 : Nat) (P2 : Option Addr) (Q2 R2 : Nat) (A8 : Option Addr) (N8 C8 : Nat) (P8 : Option Addr) (Q8 R8 : Nat) (bs9 : List En) (os9 : Os) (w' : World) : Prop where
 hc : Rc w S9 [⟨w3.heap.size + 1,#[.bool sh,.slice AH NH CH,.int .i64 xh],33⟩,⟨w3.heap.size,#[.bool sl,.slice AL NL CL,.int .i64 xl],33⟩,⟨w2.heap.size,#[.int .i64 E,.int .i64 F,.int .u64 b,.int .u8 md,.int .i64 0],109⟩] [] [(AH,NH,CH,mh),(AL,NL,CL,ml)] none bs9 os9 w'
 f0 : b0 = true → v0 = .pointer (some ⟨w2.heap.size,4,none⟩)
 f1 : b1 = true → v1 = .agg #[.bool sl,.slice AL NL CL,.int .i64 xl]
 f2 : b2 = true → v2 = .tuple #[.agg #[.bool sl,.slice A2 N2 C2,.slice P2 Q2 R2],.int .i64 0] ∧ (A2,N2,C2,nl) ∈ os9 ∧ (P2,Q2,R2,dl) ∈ os9
 f3 : b3 = true → v3 = .agg #[.bool sl,.slice A2 N2 C2,.slice P2 Q2 R2]
 f4 : b4 = true → v4 = .int .i64 0
 f5 : b5 = true → v5 = .agg #[.bool sl,.slice A2 N2 C2,.slice P2 Q2 R2]
 f6 : b6 = true → v6 = .pointer (some ⟨w2.heap.size,4,none⟩)
 f7 : b7 = true → v7 = .agg #[.bool sh,.slice AH NH CH,.int .i64 xh]
 f8 : b8 = true → v8 = .tuple #[.agg #[.bool sh,.slice A8 N8 C8,.slice P8 Q8 R8],.int .i64 0] ∧ (A8,N8,C8,nh) ∈ os9 ∧ (P8,Q8,R8,dh) ∈ os9
 f9 : b9 = true → v9 = .agg #[.bool sh,.slice A8 N8 C8,.slice P8 Q8 R8]
 f10 : b10 = true → v10 = .int .i64 0
 f11 : b11 = true → v11 = .agg #[.bool sh,.slice A8 N8 C8,.slice P8 Q8 R8]
 o0_0 : b12 = false → ⟨w.heap.size + 1,#[.bool false,.slice none 0 0,.slice none 0 0],48⟩ ∈ bs9
 o0_1 : b12 = true → ⟨w.heap.size + 1,#[.bool sl,.slice A2 N2 C2,.slice P2 Q2 R2],48⟩ ∈ bs9
 o1_0 : b13 = false → ⟨w.heap.size + 1 + 1,#[.bool false,.slice none 0 0,.slice none 0 0],48⟩ ∈ bs9
 o1_1 : b13 = true → ⟨w.heap.size + 1 + 1,#[.bool sh,.slice A8 N8 C8,.slice P8 Q8 R8],48⟩ ∈ bs9
 g3_2 : b3 = true → b2 = true
 g4_2 : b4 = true → b2 = true
 g5_2 : b5 = true → b2 = true
 g9_8 : b9 = true → b8 = true
 g10_8 : b10 = true → b8 = true
 g11_8 : b11 = true → b8 = true
 g12_5 : b12 = true → b5 = true
 g12_2 : b12 = true → b2 = true
 g13_11 : b13 = true → b11 = true
 g13_8 : b13 = true → b8 = true
 g13_12 : b13 = true → b12 = true
def Nre3I (w : World) (E F b md : Int) (sl : Bool) (ml : Nat) (xl : Int) (sh : Bool) (mh : Nat) (xh : Int) (nl dl nh dh : Nat) (str : ByteArray) (w2 : World) (w3 : World) (AL AH : Option Addr) (NL CL NH CH : Nat) (S9 : Nat) (l : Array Bool) (act : Act) (w' : World) : Nre3S → Prop
 | ⟨b0,b1,b2,b3,b4,b5,b6,b7,b8,b9,b10,b11,b12,b13,v0,v1,v2,v3,v4,v5,v6,v7,v8,v9,v10,v11,A2,N2,C2,P2,Q2,R2,A8,N8,C8,P8,Q8,R8,bs9,os9⟩ => l = #[b0,b1,b2,b3,b4,b5,b6,b7,b8,b9,b10,b11,b12,b13] ∧ act = { tmps := #[.agg #[.int .i64 E,.int .i64 F],.int .u64 b,.int .u8 md,.pointer (some ⟨w.heap.size,0,none⟩),undef,undef,.pointer (some ⟨w.heap.size + 1,0,none⟩),.pointer (some ⟨w.heap.size + 1 + 1,0,none⟩),.bool false,.bool false,.int .i64 0,.int .i64 0,.string str,.int .i64 0,.pointer (some ⟨w2.heap.size,0,none⟩),.pointer (some ⟨w3.heap.size,0,none⟩),.pointer (some ⟨w3.heap.size + 1,0,none⟩),.agg #[.int .i64 E,.int .i64 F],.int .u64 b,.slice (some ⟨w.heap.size + 1 + 1 + 1,0,none⟩) 1 1,.int .i64 0,.int .i64 0,.bool false,undef,undef,undef,.tuple #[.string str,.int .i64 0],.int .u8 md,.tuple #[.string str,.int .i64 0],.string str,.int .i64 0,.int .i64 0,.bool false,undef,undef,undef,.agg #[.int .i64 E,.int .i64 F],.int .u64 b,.int .u8 md,.agg #[.int .i64 E,.int .i64 F,.int .u64 b,.int .u8 md,.int .i64 0],.tuple #[.agg #[.bool sl,.slice AL NL CL,.int .i64 xl],.agg #[.bool sh,.slice AH NH CH,.int .i64 xh]],.tuple #[.agg #[.bool sl,.slice AL NL CL,.int .i64 xl],.agg #[.bool sh,.slice AH NH CH,.int .i64 xh]],.agg #[.bool sl,.slice AL NL CL,.int .i64 xl],.agg #[.bool sh,.slice AH NH CH,.int .i64 xh],v0,v1,v2,v3,v4,v5,v6,v7,v8,v9,v10,v11,undef,undef,undef,undef,undef,undef,undef,undef,undef,undef,undef,undef,undef,undef,undef,undef,undef],defers := [] } ∧ Nre3R w E F b md sl ml xl sh mh xh nl dl nh dh str w2 w3 AL AH NL CL NH CH S9 b0 b1 b2 b3 b4 b5 b6 b7 b8 b9 b10 b11 b12 b13 v0 v1 v2 v3 v4 v5 v6 v7 v8 v9 v10 v11 A2 N2 C2 P2 Q2 R2 A8 N8 C8 P8 Q8 R8 bs9 os9 w'
theorem Reach_is (w : World) (E F b md : Int) (sl : Bool) (ml : Nat) (xl : Int) (sh : Bool) (mh : Nat) (xh : Int) (nl dl nh dh : Nat) (li hi : Bool) (hT : Tb w) (hN : Nb w) (H0 : Tel 80 #[.agg #[.int .i64 E,.int .i64 F],.int .u64 b] (.int .i64 0)) (HN : Hid (∀ W : World,Nb W → Calls Tryz.prog 71 #[.int .u8 md] W fun e w' => (∃ str,e = .returned (.tuple #[.string str,.int .i64 0])) ∧ Below W.heap.size W w')) (HE : Hid (∀ (W : World) (p : Nat),W.heap[p]? = some (.cells #[.int .i64 E,.int .i64 F,.int .u64 b,.int .u8 md,.int .i64 0] 109 (0,0)) → Tb W → Calls Tryz.prog 72 #[.pointer (some ⟨p,0,none⟩)] W fun e w' => (∃ A N C A' N' C',e = .returned (.tuple #[.agg #[.bool sl,.slice A N C,.int .i64 xl],.agg #[.bool sh,.slice A' N' C',.int .i64 xh]]) ∧ Mine w' W.heap.size A N C ml ∧ Mine w' W.heap.size A' N' C' mh) ∧ Below W.heap.size W w')) (HRl : Hid (∀ (W : World) (A : Option Addr) (N C : Nat),Num W A N ml → Calls Tryz.prog 74 #[.agg #[.bool sl,.slice A N C,.int .i64 xl]] W fun en w' => (∃ A N C A' N' C',en = .returned (.tuple #[.agg #[.bool sl,.slice A N C,.slice A' N' C'],.int .i64 0]) ∧ Mine w' W.heap.size A N C nl ∧ Mine w' W.heap.size A' N' C' dl) ∧ Below W.heap.size W w')) (HRh : Hid (∀ (W : World) (A : Option Addr) (N C : Nat),Num W A N mh → Calls Tryz.prog 74 #[.agg #[.bool sh,.slice A N C,.int .i64 xh]] W fun en w' => (∃ A N C A' N' C',en = .returned (.tuple #[.agg #[.bool sh,.slice A N C,.slice A' N' C'],.int .i64 0]) ∧ Mine w' W.heap.size A N C nh ∧ Mine w' W.heap.size A' N' C' dh) ∧ Below W.heap.size W w')) (HHl : Hid (∀ (W : World) (p B : Nat) (A : Option Addr) (N C : Nat),W.heap[p]? = some (.cells #[.int .i64 E,.int .i64 F,.int .u64 b,.int .u8 md,.int .i64 0] 109 (0,0)) → Mine W B A N C ml → Calls Tryz.prog 75 #[.pointer (some ⟨p,0,none⟩),.agg #[.bool sl,.slice A N C,.int .i64 xl]] W fun e w' => e = .returned (.bool li) ∧ Below W.heap.size W w')) (HHh : Hid (∀ (W : World) (p B : Nat) (A : Option Addr) (N C : Nat),W.heap[p]? = some (.cells #[.int .i64 E,.int .i64 F,.int .u64 b,.int .u8 md,.int .i64 0] 109 (0,0)) → Mine W B A N C mh → Calls Tryz.prog 75 #[.pointer (some ⟨p,0,none⟩),.agg #[.bool sh,.slice A N C,.int .i64 xh]] W fun e w' => e = .returned (.bool hi) ∧ Below W.heap.size W w')) :
  Calls Tryz.prog 26 #[.agg #[.int .i64 E,.int .i64 F],.int .u64 b,.int .u8 md] w fun e w' => (∃ A N C A' N' C' B M D B' M' D',e = .returned (.tuple #[.agg #[.bool sl,.slice A N C,.slice A' N' C'],.agg #[.bool sh,.slice B M D,.slice B' M' D'],.bool li,.bool hi,.int .i64 0]) ∧ Mine w' w.heap.size A N C nl ∧ Mine w' w.heap.size A' N' C' dl ∧ Mine w' w.heap.size B M D nh ∧ Mine w' w.heap.size B' M' D' dh) ∧ Below w.heap.size w w' := by
 have HT := hide hT
 have HNB := hide hN
 clear hT hN
 have hS := Rs.begin w
 replace hS := hS.alloc #[.int .i64 E,.int .i64 F] 23
 try simp only [World.size_alloc] at hS
 replace hS := hS.alloc #[.bool false,.slice none 0 0,.slice none 0 0] 48
 try simp only [World.size_alloc] at hS
 replace hS := hS.alloc #[.bool false,.slice none 0 0,.slice none 0 0] 48
 try simp only [World.size_alloc] at hS
 go_enter Tryz.func26,Tryz.ntmps26
 go_wp2_with fail
 refine (check1_ok E F _ b H0 _ (by have := heap_alloc_new (((w.alloc (.cells #[.int .i64 E,.int .i64 F] 23)).alloc (.cells #[.bool false,.slice none 0 0,.slice none 0 0] 48)).alloc (.cells #[.bool false,.slice none 0 0,.slice none 0 0] 48)) (.cells #[.int .u64 b] 24); simpa only [World.size_alloc] using this)).mono ?_
 rintro en w1 ⟨rfl,hb1⟩
 replace hS := (hS.alloc #[.int .u64 b] 24).kept hb1
 replace hS := hS.sub (bs' := [⟨w.heap.size + 1 + 1,#[.bool false,.slice none 0 0,.slice none 0 0],48⟩,⟨w.heap.size + 1,#[.bool false,.slice none 0 0,.slice none 0 0],48⟩,⟨w.heap.size,#[.int .i64 E,.int .i64 F],23⟩]) (ms' := []) (os' := []) (by intro x hx; exact List.mem_cons_of_mem _ hx) (fun _ h => h) (fun _ h => h)
 clear hb1
 obtain ⟨⟨k0_0,k0_1,-⟩,-⟩ := hS.cz ⟨w.heap.size,#[.int .i64 E,.int .i64 F],23⟩ (by simp)
 simp only [] at k0_0 k0_1
 go_wp2_with fail
 refine (unhide HN _ ((unhide HNB).kept hS.fr)).mono ?_
 rintro en w2 ⟨⟨str,rfl⟩,hb2⟩
 replace hS := hS.kept hb2
 clear hb2
 clear k0_0 k0_1
 obtain ⟨⟨k0_0,k0_1,-⟩,-⟩ := hS.cz ⟨w.heap.size,#[.int .i64 E,.int .i64 F],23⟩ (by simp)
 simp only [] at k0_0 k0_1
 go_wp2_with fail
 clear k0_0 k0_1
 have hz2 : w.heap.size + 1 + 1 + 1 ≤ w2.heap.size := block_lt (hS.bx ⟨w.heap.size + 1 + 1,#[.bool false,.slice none 0 0,.slice none 0 0],48⟩ (by simp)).1
 replace hS := hS.alloc #[.int .i64 E,.int .i64 F,.int .u64 b,.int .u8 md,.int .i64 0] 109
 try simp only [World.size_alloc] at hS
 refine (unhide HE _ _ (hS.bx ⟨w2.heap.size,#[.int .i64 E,.int .i64 F,.int .u64 b,.int .u8 md,.int .i64 0],109⟩ (by simp)).1 ((unhide HT).kept hS.fr)).mono ?_
 rintro en w3 ⟨⟨AL,NL,CL,AH,NH,CH,rfl,gl,gh⟩,hb3⟩
 have hz3 := hb3.size
 simp only [World.size_alloc] at hz3
 have hle3 := hS.size
 replace hS := ((hS.kept hb3).own gl hle3).own gh hle3
 clear hb3 gl gh hle3
 go_wp2_with fail
 replace hS := hS.alloc #[.bool sl,.slice AL NL CL,.int .i64 xl] 33
 try simp only [World.size_alloc] at hS
 replace hS := hS.alloc #[.bool sh,.slice AH NH CH,.int .i64 xh] 33
 try simp only [World.size_alloc] at hS
 replace hS := hS.sub (bs' := [⟨w3.heap.size + 1,#[.bool sh,.slice AH NH CH,.int .i64 xh],33⟩,⟨w3.heap.size,#[.bool sl,.slice AL NL CL,.int .i64 xl],33⟩,⟨w2.heap.size,#[.int .i64 E,.int .i64 F,.int .u64 b,.int .u8 md,.int .i64 0],109⟩,⟨w.heap.size + 1 + 1,#[.bool false,.slice none 0 0,.slice none 0 0],48⟩,⟨w.heap.size + 1,#[.bool false,.slice none 0 0,.slice none 0 0],48⟩]) (ms' := []) (os' := [(AH,NH,CH,mh),(AL,NL,CL,ml)]) (by intro x hx; rcases List.mem_cons.1 hx with rfl | hx; (simp); rcases List.mem_cons.1 hx with rfl | hx; (simp); rcases List.mem_cons.1 hx with rfl | hx; (simp); rcases List.mem_cons.1 hx with rfl | hx; (simp); rcases List.mem_cons.1 hx with rfl | hx; (simp); exact absurd hx List.not_mem_nil) (by intro x hx; exact absurd hx List.not_mem_nil) (by intro x hx; rcases List.mem_cons.1 hx with rfl | hx; (simp); rcases List.mem_cons.1 hx with rfl | hx; (simp); exact absurd hx List.not_mem_nil)
 refine wp_region_any (by kernel_rfl) ?_
 change wpAny _ _ _ _ _ _ _ (World.drew _)
 have hS9 := hS.drew
 have hsW9 : (World.drew ((w3.alloc (.cells #[.bool sl,.slice AL NL CL,.int .i64 xl] 33)).alloc (.cells #[.bool sh,.slice AH NH CH,.int .i64 xh] 33))).heap.size = w3.heap.size + 1 + 1 := by first | rfl | simp
 generalize World.drew ((w3.alloc (.cells #[.bool sl,.slice AL NL CL,.int .i64 xl] 33)).alloc (.cells #[.bool sh,.slice AH NH CH,.int .i64 xh] 33)) = Wd at hS9 hsW9 ⊢
 obtain ⟨S9,hS9z⟩ : ∃ x,x = Wd.heap.size := ⟨_,rfl⟩
 have hC9 := Rc.start (bs := [⟨w3.heap.size + 1,#[.bool sh,.slice AH NH CH,.int .i64 xh],33⟩,⟨w3.heap.size,#[.bool sl,.slice AL NL CL,.int .i64 xl],33⟩,⟨w2.heap.size,#[.int .i64 E,.int .i64 F,.int .u64 b,.int .u8 md,.int .i64 0],109⟩]) hS9 (by simp)
 rw [← hS9z] at hC9
 have hP9_0 := hS9.bx ⟨w.heap.size + 1,#[.bool false,.slice none 0 0,.slice none 0 0],48⟩ (by simp)
 have hP9_0 := block_lt hP9_0.1
 rw [← hS9z] at hP9_0
 simp only [] at hP9_0
 have hP9_1 := hS9.bx ⟨w.heap.size + 1 + 1,#[.bool false,.slice none 0 0,.slice none 0 0],48⟩ (by simp)
 have hP9_1 := block_lt hP9_1.1
 rw [← hS9z] at hP9_1
 simp only [] at hP9_1
 refine wpAny_inv (fun l act w' => ∃ σ,Nre3I w E F b md sl ml xl sh mh xh nl dl nh dh str w2 w3 AL AH NL CL NH CH S9 l act w' σ) ?_ ?_ _ _ _ _ ?_ ?_
 ·intro l act w' i9 hI9 hi9 hl9
  have hin9 : i9 < 14 := by
   by_cases h : i9 < 14
   ·exact h
   ·obtain ⟨⟨⟩,rfl,_⟩ := hI9
    rw [Array.getElem?_eq_none (by simp; omega)] at hl9; cases hl9
  have hcase : i9 = 0 ∨ i9 = 1 ∨ i9 = 2 ∨ i9 = 3 ∨ i9 = 4 ∨ i9 = 5 ∨ i9 = 6 ∨ i9 = 7 ∨ i9 = 8 ∨ i9 = 9 ∨ i9 = 10 ∨ i9 = 11 ∨ i9 = 12 ∨ i9 = 13 := by omega
  clear hin9
  obtain ⟨⟨b0,b1,b2,b3,b4,b5,b6,b7,b8,b9,b10,b11,b12,b13,v0,v1,v2,v3,v4,v5,v6,v7,v8,v9,v10,v11,A2,N2,C2,P2,Q2,R2,A8,N8,C8,P8,Q8,R8,bs9,os9⟩,rfl,rfl,hR⟩ := hI9
  rcases hcase with rfl | rfl | rfl | rfl | rfl | rfl | rfl | rfl | rfl | rfl | rfl | rfl | rfl | rfl
  ·obtain rfl : b0 = false := by simpa using hl9
   have hc := hR.hc
   refine wpOp_step rfl fun K hK => ?_
   go_simp
   exact hK _ _ ⟨⟨_,_,_,_,_,_,_,_,_,_,_,_,_,_,_,_,_,_,_,_,_,_,_,_,_,_,A2,N2,C2,P2,Q2,R2,A8,N8,C8,P8,Q8,R8,_,_⟩,rfl,rfl,{ hR with hc := hc,f0 := (fun _ => rfl) }⟩
  ·obtain rfl : b1 = false := by simpa using hl9
   have hc := hR.hc
   have c9_0 := hc.st.cellAt (hc.old ⟨w3.heap.size,#[.bool sl,.slice AL NL CL,.int .i64 xl],33⟩ (by simp)).1 0 (.bool sl) rfl
   have c9_1 := hc.st.cellAt (hc.old ⟨w3.heap.size,#[.bool sl,.slice AL NL CL,.int .i64 xl],33⟩ (by simp)).1 1 (.slice AL NL CL) rfl
   have c9_2 := hc.st.cellAt (hc.old ⟨w3.heap.size,#[.bool sl,.slice AL NL CL,.int .i64 xl],33⟩ (by simp)).1 2 (.int .i64 xl) rfl
   simp only [] at c9_0 c9_1 c9_2
   refine wpOp_step rfl fun K hK => ?_
   go_simp
   exact hK _ _ ⟨⟨_,_,_,_,_,_,_,_,_,_,_,_,_,_,_,_,_,_,_,_,_,_,_,_,_,_,A2,N2,C2,P2,Q2,R2,A8,N8,C8,P8,Q8,R8,_,_⟩,rfl,rfl,{ hR with hc := hc,f1 := (fun _ => rfl) }⟩
  ·obtain rfl : b2 = false := by simpa using hl9
   obtain ⟨o9,ho9,hd9⟩ := (mem_ready.1 hi9).2
   cases ho9
   have e1 : b1 = true := hd9 ⟨1,.data⟩ (by simp) rfl
   subst e1
   have h9 := hR.f1 rfl
   subst h9
   have hc := hR.hc
   have HR := hide hR
   clear hR
   refine wpOp_step rfl fun K hK => ?_
   go_simp
   go_wp2_with fail
   refine (W_oft2 hc.st (unhide HRl _ _ _ _ (hc.st.ow (AL,NL,CL,ml) (hc.oso _ (by simp))).num )).mono ?_
   rintro en w9 ⟨a9,n9,c9,a8,n8,c8,rfl,hs9,hz9⟩
   have hR := unhide HR
   exact hK _ _ ⟨⟨_,_,_,_,_,_,_,_,_,_,_,_,_,_,_,_,_,_,_,_,_,_,_,_,_,_,_,_,_,_,_,_,A8,N8,C8,P8,Q8,R8,_,_⟩,rfl,rfl,{ hR with hc := (hc.call hs9 hz9 (fun y hy => List.mem_cons_of_mem _ (List.mem_cons_of_mem _ hy))),f2 := (fun _ => ⟨rfl,List.mem_cons_of_mem _ (List.mem_cons_self ..),List.mem_cons_self ..⟩),f3 := (fun h => Bool.noConfusion (hR.g3_2 h)),f4 := (fun h => Bool.noConfusion (hR.g4_2 h)),f5 := (fun h => Bool.noConfusion (hR.g5_2 h)),f8 := (fun h => ⟨(hR.f8 h).1,List.mem_cons_of_mem _ (List.mem_cons_of_mem _ (hR.f8 h).2.1),List.mem_cons_of_mem _ (List.mem_cons_of_mem _ (hR.f8 h).2.2)⟩),o0_1 := (fun h => Bool.noConfusion (hR.g12_2 h)),g3_2 := (fun _ => rfl),g4_2 := (fun _ => rfl),g5_2 := (fun _ => rfl),g12_2 := (fun _ => rfl) }⟩
  ·obtain rfl : b3 = false := by simpa using hl9
   obtain ⟨o9,ho9,hd9⟩ := (mem_ready.1 hi9).2
   cases ho9
   have e2 : b2 = true := hd9 ⟨2,.data⟩ (by simp) rfl
   subst e2
   have q2 := hR.f2 rfl
   obtain ⟨h9,q2m⟩ := q2
   subst h9
   have hc := hR.hc
   refine wpOp_step rfl fun K hK => ?_
   go_simp
   exact hK _ _ ⟨⟨_,_,_,_,_,_,_,_,_,_,_,_,_,_,_,_,_,_,_,_,_,_,_,_,_,_,A2,N2,C2,P2,Q2,R2,A8,N8,C8,P8,Q8,R8,_,_⟩,rfl,rfl,{ hR with hc := hc,f3 := (fun _ => rfl),g3_2 := (fun _ => rfl) }⟩
  ·obtain rfl : b4 = false := by simpa using hl9
   obtain ⟨o9,ho9,hd9⟩ := (mem_ready.1 hi9).2
   cases ho9
   have e2 : b2 = true := hd9 ⟨2,.data⟩ (by simp) rfl
   subst e2
   have q2 := hR.f2 rfl
   obtain ⟨h9,q2m⟩ := q2
   subst h9
   have hc := hR.hc
   refine wpOp_step rfl fun K hK => ?_
   go_simp
   exact hK _ _ ⟨⟨_,_,_,_,_,_,_,_,_,_,_,_,_,_,_,_,_,_,_,_,_,_,_,_,_,_,A2,N2,C2,P2,Q2,R2,A8,N8,C8,P8,Q8,R8,_,_⟩,rfl,rfl,{ hR with hc := hc,f4 := (fun _ => rfl),g4_2 := (fun _ => rfl) }⟩
  ·obtain rfl : b5 = false := by simpa using hl9
   obtain ⟨o9,ho9,hd9⟩ := (mem_ready.1 hi9).2
   cases ho9
   have e0 : b0 = true := hd9 ⟨0,.data⟩ (by simp) rfl
   have e3 : b3 = true := hd9 ⟨3,.data⟩ (by simp) rfl
   have e4 : b4 = true := hd9 ⟨4,.data⟩ (by simp) rfl
   subst e0 e3 e4
   have h9 := hR.f0 rfl
   subst h9
   obtain rfl : b2 = true := hR.g3_2 rfl
   have q2 := hR.f2 rfl
   obtain ⟨h9,q2m⟩ := q2
   subst h9
   have h9 := hR.f3 rfl
   subst h9
   have h9 := hR.f4 rfl
   subst h9
   have hc := hR.hc
   have HR := hide hR
   clear hR
   refine wpOp_step rfl fun K hK => ?_
   go_simp
   go_wp2_with fail
   refine (runRatio_0 (w2.heap.size) 4 _ _ _ _ _ _ _ _ ⟨_,_,(hc.st.bx ⟨w2.heap.size,#[.int .i64 E,.int .i64 F,.int .u64 b,.int .u8 md,.int .i64 0],109⟩ (hc.old ⟨w2.heap.size,#[.int .i64 E,.int .i64 F,.int .u64 b,.int .u8 md,.int .i64 0],109⟩ (by simp)).1).1,rfl⟩).mono ?_
   rintro en w9 ⟨rfl,hb9⟩
   have hR := unhide HR
   exact hK _ _ ⟨⟨_,_,_,_,_,_,_,_,_,_,_,_,_,_,_,_,_,_,_,_,_,_,_,_,_,_,A2,N2,C2,P2,Q2,R2,A8,N8,C8,P8,Q8,R8,_,_⟩,rfl,rfl,{ hR with hc := (hc.call (hc.st.kept hb9) hb9.size (fun y hy => hy)),f5 := (fun _ => rfl),o0_1 := (fun h => Bool.noConfusion (hR.g12_5 h)),g5_2 := (fun _ => rfl),g12_5 := (fun _ => rfl) }⟩
  ·obtain rfl : b6 = false := by simpa using hl9
   have hc := hR.hc
   refine wpOp_step rfl fun K hK => ?_
   go_simp
   exact hK _ _ ⟨⟨_,_,_,_,_,_,_,_,_,_,_,_,_,_,_,_,_,_,_,_,_,_,_,_,_,_,A2,N2,C2,P2,Q2,R2,A8,N8,C8,P8,Q8,R8,_,_⟩,rfl,rfl,{ hR with hc := hc,f6 := (fun _ => rfl) }⟩
  ·obtain rfl : b7 = false := by simpa using hl9
   have hc := hR.hc
   have c9_0 := hc.st.cellAt (hc.old ⟨w3.heap.size + 1,#[.bool sh,.slice AH NH CH,.int .i64 xh],33⟩ (by simp)).1 0 (.bool sh) rfl
   have c9_1 := hc.st.cellAt (hc.old ⟨w3.heap.size + 1,#[.bool sh,.slice AH NH CH,.int .i64 xh],33⟩ (by simp)).1 1 (.slice AH NH CH) rfl
   have c9_2 := hc.st.cellAt (hc.old ⟨w3.heap.size + 1,#[.bool sh,.slice AH NH CH,.int .i64 xh],33⟩ (by simp)).1 2 (.int .i64 xh) rfl
   simp only [] at c9_0 c9_1 c9_2
   refine wpOp_step rfl fun K hK => ?_
   go_simp
   exact hK _ _ ⟨⟨_,_,_,_,_,_,_,_,_,_,_,_,_,_,_,_,_,_,_,_,_,_,_,_,_,_,A2,N2,C2,P2,Q2,R2,A8,N8,C8,P8,Q8,R8,_,_⟩,rfl,rfl,{ hR with hc := hc,f7 := (fun _ => rfl) }⟩
  ·obtain rfl : b8 = false := by simpa using hl9
   obtain ⟨o9,ho9,hd9⟩ := (mem_ready.1 hi9).2
   cases ho9
   have e7 : b7 = true := hd9 ⟨7,.data⟩ (by simp) rfl
   subst e7
   have h9 := hR.f7 rfl
   subst h9
   have hc := hR.hc
   have HR := hide hR
   clear hR
   refine wpOp_step rfl fun K hK => ?_
   go_simp
   go_wp2_with fail
   refine (W_oft2 hc.st (unhide HRh _ _ _ _ (hc.st.ow (AH,NH,CH,mh) (hc.oso _ (by simp))).num )).mono ?_
   rintro en w9 ⟨a9,n9,c9,a8,n8,c8,rfl,hs9,hz9⟩
   have hR := unhide HR
   exact hK _ _ ⟨⟨_,_,_,_,_,_,_,_,_,_,_,_,_,_,_,_,_,_,_,_,_,_,_,_,_,_,A2,N2,C2,P2,Q2,R2,_,_,_,_,_,_,_,_⟩,rfl,rfl,{ hR with hc := (hc.call hs9 hz9 (fun y hy => List.mem_cons_of_mem _ (List.mem_cons_of_mem _ hy))),f2 := (fun h => ⟨(hR.f2 h).1,List.mem_cons_of_mem _ (List.mem_cons_of_mem _ (hR.f2 h).2.1),List.mem_cons_of_mem _ (List.mem_cons_of_mem _ (hR.f2 h).2.2)⟩),f8 := (fun _ => ⟨rfl,List.mem_cons_of_mem _ (List.mem_cons_self ..),List.mem_cons_self ..⟩),f9 := (fun h => Bool.noConfusion (hR.g9_8 h)),f10 := (fun h => Bool.noConfusion (hR.g10_8 h)),f11 := (fun h => Bool.noConfusion (hR.g11_8 h)),o1_1 := (fun h => Bool.noConfusion (hR.g13_8 h)),g9_8 := (fun _ => rfl),g10_8 := (fun _ => rfl),g11_8 := (fun _ => rfl),g13_8 := (fun _ => rfl) }⟩
  ·obtain rfl : b9 = false := by simpa using hl9
   obtain ⟨o9,ho9,hd9⟩ := (mem_ready.1 hi9).2
   cases ho9
   have e8 : b8 = true := hd9 ⟨8,.data⟩ (by simp) rfl
   subst e8
   have q8 := hR.f8 rfl
   obtain ⟨h9,q8m⟩ := q8
   subst h9
   have hc := hR.hc
   refine wpOp_step rfl fun K hK => ?_
   go_simp
   exact hK _ _ ⟨⟨_,_,_,_,_,_,_,_,_,_,_,_,_,_,_,_,_,_,_,_,_,_,_,_,_,_,A2,N2,C2,P2,Q2,R2,A8,N8,C8,P8,Q8,R8,_,_⟩,rfl,rfl,{ hR with hc := hc,f9 := (fun _ => rfl),g9_8 := (fun _ => rfl) }⟩
  ·obtain rfl : b10 = false := by simpa using hl9
   obtain ⟨o9,ho9,hd9⟩ := (mem_ready.1 hi9).2
   cases ho9
   have e8 : b8 = true := hd9 ⟨8,.data⟩ (by simp) rfl
   subst e8
   have q8 := hR.f8 rfl
   obtain ⟨h9,q8m⟩ := q8
   subst h9
   have hc := hR.hc
   refine wpOp_step rfl fun K hK => ?_
   go_simp
   exact hK _ _ ⟨⟨_,_,_,_,_,_,_,_,_,_,_,_,_,_,_,_,_,_,_,_,_,_,_,_,_,_,A2,N2,C2,P2,Q2,R2,A8,N8,C8,P8,Q8,R8,_,_⟩,rfl,rfl,{ hR with hc := hc,f10 := (fun _ => rfl),g10_8 := (fun _ => rfl) }⟩
  ·obtain rfl : b11 = false := by simpa using hl9
   obtain ⟨o9,ho9,hd9⟩ := (mem_ready.1 hi9).2
   cases ho9
   have e6 : b6 = true := hd9 ⟨6,.data⟩ (by simp) rfl
   have e9 : b9 = true := hd9 ⟨9,.data⟩ (by simp) rfl
   have e10 : b10 = true := hd9 ⟨10,.data⟩ (by simp) rfl
   subst e6 e9 e10
   have h9 := hR.f6 rfl
   subst h9
   obtain rfl : b8 = true := hR.g9_8 rfl
   have q8 := hR.f8 rfl
   obtain ⟨h9,q8m⟩ := q8
   subst h9
   have h9 := hR.f9 rfl
   subst h9
   have h9 := hR.f10 rfl
   subst h9
   have hc := hR.hc
   have HR := hide hR
   clear hR
   refine wpOp_step rfl fun K hK => ?_
   go_simp
   go_wp2_with fail
   refine (runRatio_0 (w2.heap.size) 4 _ _ _ _ _ _ _ _ ⟨_,_,(hc.st.bx ⟨w2.heap.size,#[.int .i64 E,.int .i64 F,.int .u64 b,.int .u8 md,.int .i64 0],109⟩ (hc.old ⟨w2.heap.size,#[.int .i64 E,.int .i64 F,.int .u64 b,.int .u8 md,.int .i64 0],109⟩ (by simp)).1).1,rfl⟩).mono ?_
   rintro en w9 ⟨rfl,hb9⟩
   have hR := unhide HR
   exact hK _ _ ⟨⟨_,_,_,_,_,_,_,_,_,_,_,_,_,_,_,_,_,_,_,_,_,_,_,_,_,_,A2,N2,C2,P2,Q2,R2,A8,N8,C8,P8,Q8,R8,_,_⟩,rfl,rfl,{ hR with hc := (hc.call (hc.st.kept hb9) hb9.size (fun y hy => hy)),f11 := (fun _ => rfl),o1_1 := (fun h => Bool.noConfusion (hR.g13_11 h)),g11_8 := (fun _ => rfl),g13_11 := (fun _ => rfl) }⟩
  ·obtain rfl : b12 = false := by simpa using hl9
   obtain ⟨o9,ho9,hd9⟩ := (mem_ready.1 hi9).2
   cases ho9
   have e5 : b5 = true := hd9 ⟨5,.data⟩ (by simp) rfl
   subst e5
   obtain rfl : b2 = true := hR.g5_2 rfl
   have q2 := hR.f2 rfl
   obtain ⟨h9,q2m⟩ := q2
   subst h9
   have h9 := hR.f5 rfl
   subst h9
   have hc := hR.hc
   have hm9 := hR.o0_0 rfl
   have fz9_0 := hc.st.frozen hm9 0
   have cz9_0 := hc.st.cellAt hm9 0 (.bool false) rfl
   simp only [] at fz9_0 cz9_0
   have fz9_1 := hc.st.frozen hm9 1
   have cz9_1 := hc.st.cellAt hm9 1 (.slice none 0 0) rfl
   simp only [] at fz9_1 cz9_1
   have fz9_2 := hc.st.frozen hm9 2
   have cz9_2 := hc.st.cellAt hm9 2 (.slice none 0 0) rfl
   simp only [] at fz9_2 cz9_2
   have hn9 : ∀ x,x ∈ ([⟨w3.heap.size + 1,#[.bool sh,.slice AH NH CH,.int .i64 xh],33⟩,⟨w3.heap.size,#[.bool sl,.slice AL NL CL,.int .i64 xl],33⟩,⟨w2.heap.size,#[.int .i64 E,.int .i64 F,.int .u64 b,.int .u8 md,.int .i64 0],109⟩] : List En) → x.b ≠ w.heap.size + 1 := by intro x hx; rcases List.mem_cons.1 hx with rfl | hx; (simp only []; omega); rcases List.mem_cons.1 hx with rfl | hx; (simp only []; omega); rcases List.mem_cons.1 hx with rfl | hx; (simp only []; omega);  exact absurd hx List.not_mem_nil
   have hw9 : w.heap.size ≤ w.heap.size + 1 := by omega
   refine wpOp_step rfl fun K hK => ?_
   go_simp
   exact hK _ _ ⟨⟨_,_,_,_,_,_,_,_,_,_,_,_,_,_,_,_,_,_,_,_,_,_,_,_,_,_,A2,N2,C2,P2,Q2,R2,A8,N8,C8,P8,Q8,R8,_,_⟩,rfl,rfl,{ hR with hc := (((hc.store hm9 hw9 hn9 0 (.bool sl) (by simp)).store (List.mem_cons_self ..) hw9 hn9 1 (.slice A2 N2 C2) (by simp)).store (List.mem_cons_self ..) hw9 hn9 2 (.slice P2 Q2 R2) (by simp)),o0_0 := (fun h => Bool.noConfusion h),o0_1 := (fun _ => List.mem_cons_self ..),o1_0 := (fun h0 => (List.mem_cons_of_mem _ (List.mem_filter.2 ⟨(List.mem_cons_of_mem _ (List.mem_filter.2 ⟨(List.mem_cons_of_mem _ (List.mem_filter.2 ⟨(hR.o1_0 h0),by simp only [ne_eq,decide_not,Bool.not_eq_eq_eq_not,Bool.not_true,decide_eq_false_iff_not]; omega⟩)),by simp only [ne_eq,decide_not,Bool.not_eq_eq_eq_not,Bool.not_true,decide_eq_false_iff_not]; omega⟩)),by simp only [ne_eq,decide_not,Bool.not_eq_eq_eq_not,Bool.not_true,decide_eq_false_iff_not]; omega⟩))),o1_1 := (fun h0 => (List.mem_cons_of_mem _ (List.mem_filter.2 ⟨(List.mem_cons_of_mem _ (List.mem_filter.2 ⟨(List.mem_cons_of_mem _ (List.mem_filter.2 ⟨(hR.o1_1 h0),by simp only [ne_eq,decide_not,Bool.not_eq_eq_eq_not,Bool.not_true,decide_eq_false_iff_not]; omega⟩)),by simp only [ne_eq,decide_not,Bool.not_eq_eq_eq_not,Bool.not_true,decide_eq_false_iff_not]; omega⟩)),by simp only [ne_eq,decide_not,Bool.not_eq_eq_eq_not,Bool.not_true,decide_eq_false_iff_not]; omega⟩))),g12_5 := (fun _ => rfl),g12_2 := (fun _ => rfl),g13_12 := (fun _ => rfl) }⟩
  ·obtain rfl : b13 = false := by simpa using hl9
   obtain ⟨o9,ho9,hd9⟩ := (mem_ready.1 hi9).2
   cases ho9
   have e11 : b11 = true := hd9 ⟨11,.data⟩ (by simp) rfl
   have e12 : b12 = true := hd9 ⟨12,.chain⟩ (by simp) rfl
   subst e11 e12
   obtain rfl : b8 = true := hR.g11_8 rfl
   have q8 := hR.f8 rfl
   obtain ⟨h9,q8m⟩ := q8
   subst h9
   have h9 := hR.f11 rfl
   subst h9
   have hc := hR.hc
   have hm9 := hR.o1_0 rfl
   have fz9_0 := hc.st.frozen hm9 0
   have cz9_0 := hc.st.cellAt hm9 0 (.bool false) rfl
   simp only [] at fz9_0 cz9_0
   have fz9_1 := hc.st.frozen hm9 1
   have cz9_1 := hc.st.cellAt hm9 1 (.slice none 0 0) rfl
   simp only [] at fz9_1 cz9_1
   have fz9_2 := hc.st.frozen hm9 2
   have cz9_2 := hc.st.cellAt hm9 2 (.slice none 0 0) rfl
   simp only [] at fz9_2 cz9_2
   have hn9 : ∀ x,x ∈ ([⟨w3.heap.size + 1,#[.bool sh,.slice AH NH CH,.int .i64 xh],33⟩,⟨w3.heap.size,#[.bool sl,.slice AL NL CL,.int .i64 xl],33⟩,⟨w2.heap.size,#[.int .i64 E,.int .i64 F,.int .u64 b,.int .u8 md,.int .i64 0],109⟩] : List En) → x.b ≠ w.heap.size + 1 + 1 := by intro x hx; rcases List.mem_cons.1 hx with rfl | hx; (simp only []; omega); rcases List.mem_cons.1 hx with rfl | hx; (simp only []; omega); rcases List.mem_cons.1 hx with rfl | hx; (simp only []; omega);  exact absurd hx List.not_mem_nil
   have hw9 : w.heap.size ≤ w.heap.size + 1 + 1 := by omega
   refine wpOp_step rfl fun K hK => ?_
   go_simp
   exact hK _ _ ⟨⟨_,_,_,_,_,_,_,_,_,_,_,_,_,_,_,_,_,_,_,_,_,_,_,_,_,_,A2,N2,C2,P2,Q2,R2,A8,N8,C8,P8,Q8,R8,_,_⟩,rfl,rfl,{ hR with hc := (((hc.store hm9 hw9 hn9 0 (.bool sh) (by simp)).store (List.mem_cons_self ..) hw9 hn9 1 (.slice A8 N8 C8) (by simp)).store (List.mem_cons_self ..) hw9 hn9 2 (.slice P8 Q8 R8) (by simp)),o0_0 := (fun h0 => (List.mem_cons_of_mem _ (List.mem_filter.2 ⟨(List.mem_cons_of_mem _ (List.mem_filter.2 ⟨(List.mem_cons_of_mem _ (List.mem_filter.2 ⟨(hR.o0_0 h0),by simp only [ne_eq,decide_not,Bool.not_eq_eq_eq_not,Bool.not_true,decide_eq_false_iff_not]; omega⟩)),by simp only [ne_eq,decide_not,Bool.not_eq_eq_eq_not,Bool.not_true,decide_eq_false_iff_not]; omega⟩)),by simp only [ne_eq,decide_not,Bool.not_eq_eq_eq_not,Bool.not_true,decide_eq_false_iff_not]; omega⟩))),o0_1 := (fun h0 => (List.mem_cons_of_mem _ (List.mem_filter.2 ⟨(List.mem_cons_of_mem _ (List.mem_filter.2 ⟨(List.mem_cons_of_mem _ (List.mem_filter.2 ⟨(hR.o0_1 h0),by simp only [ne_eq,decide_not,Bool.not_eq_eq_eq_not,Bool.not_true,decide_eq_false_iff_not]; omega⟩)),by simp only [ne_eq,decide_not,Bool.not_eq_eq_eq_not,Bool.not_true,decide_eq_false_iff_not]; omega⟩)),by simp only [ne_eq,decide_not,Bool.not_eq_eq_eq_not,Bool.not_true,decide_eq_false_iff_not]; omega⟩))),o1_0 := (fun h => Bool.noConfusion h),o1_1 := (fun _ => List.mem_cons_self ..),g13_11 := (fun _ => rfl),g13_8 := (fun _ => rfl),g13_12 := (fun _ => rfl) }⟩
 ·rintro l act Wq3 ⟨⟨b0,b1,b2,b3,b4,b5,b6,b7,b8,b9,b10,b11,b12,b13,v0,v1,v2,v3,v4,v5,v6,v7,v8,v9,v10,v11,x3_A2,x3_N2,x3_C2,x3_P2,x3_Q2,x3_R2,x3_A8,x3_N8,x3_C8,x3_P8,x3_Q8,x3_R8,bs9,os9⟩,rfl,rfl,hR⟩ hr9
  obtain ⟨hc,f0,f1,f2,f3,f4,f5,f6,f7,f8,f9,f10,f11,o0_0,o0_1,o1_0,o1_1,g3_2,g4_2,g5_2,g9_8,g10_8,g11_8,g12_5,g12_2,g13_11,g13_8,g13_12⟩ := hR
  have eall := all_done hr9 (by kernel_rfl) rfl
  obtain rfl : b0 = true := eall 0 (by decide)
  obtain rfl : b1 = true := eall 1 (by decide)
  obtain rfl : b2 = true := eall 2 (by decide)
  obtain rfl : b3 = true := eall 3 (by decide)
  obtain rfl : b4 = true := eall 4 (by decide)
  obtain rfl : b5 = true := eall 5 (by decide)
  obtain rfl : b6 = true := eall 6 (by decide)
  obtain rfl : b7 = true := eall 7 (by decide)
  obtain rfl : b8 = true := eall 8 (by decide)
  obtain rfl : b9 = true := eall 9 (by decide)
  obtain rfl : b10 = true := eall 10 (by decide)
  obtain rfl : b11 = true := eall 11 (by decide)
  obtain rfl : b12 = true := eall 12 (by decide)
  obtain rfl : b13 = true := eall 13 (by decide)
  clear hr9 eall
  have h9 := f0 rfl
  subst h9
  have h9 := f1 rfl
  subst h9
  obtain ⟨h9,q2m,q2m2⟩ := f2 rfl
  subst h9
  have h9 := f3 rfl
  subst h9
  have h9 := f4 rfl
  subst h9
  have h9 := f5 rfl
  subst h9
  have h9 := f6 rfl
  subst h9
  have h9 := f7 rfl
  subst h9
  obtain ⟨h9,q8m,q8m2⟩ := f8 rfl
  subst h9
  have h9 := f9 rfl
  subst h9
  have h9 := f10 rfl
  subst h9
  have h9 := f11 rfl
  subst h9
  have hbs9 : ∀ x,x ∈ ([⟨w.heap.size + 1 + 1,#[.bool sh,.slice x3_A8 x3_N8 x3_C8,.slice x3_P8 x3_Q8 x3_R8],48⟩,⟨w.heap.size + 1,#[.bool sl,.slice x3_A2 x3_N2 x3_C2,.slice x3_P2 x3_Q2 x3_R2],48⟩,⟨w3.heap.size + 1,#[.bool sh,.slice AH NH CH,.int .i64 xh],33⟩,⟨w3.heap.size,#[.bool sl,.slice AL NL CL,.int .i64 xl],33⟩,⟨w2.heap.size,#[.int .i64 E,.int .i64 F,.int .u64 b,.int .u8 md,.int .i64 0],109⟩] : List En) → x ∈ bs9 := by
   intro x hx
   rcases List.mem_cons.1 hx with rfl | hx
   ·exact (o1_1 rfl)
   rcases List.mem_cons.1 hx with rfl | hx
   ·exact (o0_1 rfl)
   rcases List.mem_cons.1 hx with rfl | hx
   ·exact (hc.old _ (by simp)).1
   rcases List.mem_cons.1 hx with rfl | hx
   ·exact (hc.old _ (by simp)).1
   rcases List.mem_cons.1 hx with rfl | hx
   ·exact (hc.old _ (by simp)).1
   exact absurd hx List.not_mem_nil
  have hos9 : ∀ x,x ∈ ([(x3_A2,x3_N2,x3_C2,nl),(x3_P2,x3_Q2,x3_R2,dl),(x3_A8,x3_N8,x3_C8,nh),(x3_P8,x3_Q8,x3_R8,dh),(AH,NH,CH,mh),(AL,NL,CL,ml)] : Os) → x ∈ os9 := by
   intro x hx
   rcases List.mem_cons.1 hx with rfl | hx
   ·exact q2m
   rcases List.mem_cons.1 hx with rfl | hx
   ·exact q2m2
   rcases List.mem_cons.1 hx with rfl | hx
   ·exact q8m
   rcases List.mem_cons.1 hx with rfl | hx
   ·exact q8m2
   rcases List.mem_cons.1 hx with rfl | hx
   ·exact hc.oso _ (by simp)
   rcases List.mem_cons.1 hx with rfl | hx
   ·exact hc.oso _ (by simp)
   exact absurd hx List.not_mem_nil
  have hS := hc.st.sub hbs9 (fun x hx => hx) hos9
  have hsz9 := hc.sz
  rw [hS9z,hsW9] at hsz9
  clear hbs9 hos9 hc f0 f1 f2 f3 f4 f5 f6 f7 f8 f9 f10 f11 o0_0 o0_1 o1_0 o1_1 g3_2 g4_2 g5_2 g9_8 g10_8 g11_8 g12_5 g12_2 g13_11 g13_8 g13_12
  clear q2m q2m2 q8m q8m2
  have hz3 := hsz9
  clear hsz9 hS9z hS9 hC9 hsW9
  go_wp2_with fail
  refine wp_region_any (by kernel_rfl) ?_
  change wpAny _ _ _ _ _ _ _ (World.drew _)
  have hS9 := hS.drew
  have hsW9 : (World.drew Wq3).heap.size = Wq3.heap.size := by first | rfl | simp
  generalize World.drew Wq3 = Wd at hS9 hsW9 ⊢
  obtain ⟨S9,hS9z⟩ : ∃ x,x = Wd.heap.size := ⟨_,rfl⟩
  have hC9 := Rc.start (bs := [⟨w.heap.size + 1 + 1,#[.bool sh,.slice x3_A8 x3_N8 x3_C8,.slice x3_P8 x3_Q8 x3_R8],48⟩,⟨w.heap.size + 1,#[.bool sl,.slice x3_A2 x3_N2 x3_C2,.slice x3_P2 x3_Q2 x3_R2],48⟩,⟨w3.heap.size + 1,#[.bool sh,.slice AH NH CH,.int .i64 xh],33⟩,⟨w3.heap.size,#[.bool sl,.slice AL NL CL,.int .i64 xl],33⟩,⟨w2.heap.size,#[.int .i64 E,.int .i64 F,.int .u64 b,.int .u8 md,.int .i64 0],109⟩]) hS9 (by simp)
  rw [← hS9z] at hC9
  refine wpAny_inv (fun l act w' => ∃ σ,Nre4I w E F b md sl ml xl sh mh xh nl dl nh dh li hi str w2 w3 AL AH NL CL NH CH x3_A2 x3_N2 x3_C2 x3_P2 x3_Q2 x3_R2 x3_A8 x3_N8 x3_C8 x3_P8 x3_Q8 x3_R8 S9 l act w' σ) ?_ ?_ _ _ _ _ ?_ ?_
  ·intro l act w' i9 hI9 hi9 hl9
   have hin9 : i9 < 6 := by
    by_cases h : i9 < 6
    ·exact h
    ·obtain ⟨⟨⟩,rfl,_⟩ := hI9
     rw [Array.getElem?_eq_none (by simp; omega)] at hl9; cases hl9
   have hcase : i9 = 0 ∨ i9 = 1 ∨ i9 = 2 ∨ i9 = 3 ∨ i9 = 4 ∨ i9 = 5 := by omega
   clear hin9
   obtain ⟨⟨b0,b1,b2,b3,b4,b5,v0,v1,v2,v3,v4,v5,bs9,os9⟩,rfl,rfl,hR⟩ := hI9
   rcases hcase with rfl | rfl | rfl | rfl | rfl | rfl
   ·obtain rfl : b0 = false := by simpa using hl9
    have hc := hR.hc
    have c9_0 := hc.st.cellAt (hc.old ⟨w3.heap.size,#[.bool sl,.slice AL NL CL,.int .i64 xl],33⟩ (by simp)).1 0 (.bool sl) rfl
    have c9_1 := hc.st.cellAt (hc.old ⟨w3.heap.size,#[.bool sl,.slice AL NL CL,.int .i64 xl],33⟩ (by simp)).1 1 (.slice AL NL CL) rfl
    have c9_2 := hc.st.cellAt (hc.old ⟨w3.heap.size,#[.bool sl,.slice AL NL CL,.int .i64 xl],33⟩ (by simp)).1 2 (.int .i64 xl) rfl
    simp only [] at c9_0 c9_1 c9_2
    refine wpOp_step rfl fun K hK => ?_
    go_simp
    exact hK _ _ ⟨⟨_,_,_,_,_,_,_,_,_,_,_,_,_,_⟩,rfl,rfl,{ hR with hc := hc,f0 := (fun _ => rfl) }⟩
   ·obtain rfl : b1 = false := by simpa using hl9
    obtain ⟨o9,ho9,hd9⟩ := (mem_ready.1 hi9).2
    cases ho9
    have e0 : b0 = true := hd9 ⟨0,.data⟩ (by simp) rfl
    subst e0
    have h9 := hR.f0 rfl
    subst h9
    have hc := hR.hc
    have HR := hide hR
    clear hR
    refine wpOp_step rfl fun K hK => ?_
    go_simp
    go_wp2_with fail
    refine (unhide HHl _ _ _ _ _ _ (hc.st.bx ⟨w2.heap.size,#[.int .i64 E,.int .i64 F,.int .u64 b,.int .u8 md,.int .i64 0],109⟩ (hc.old ⟨w2.heap.size,#[.int .i64 E,.int .i64 F,.int .u64 b,.int .u8 md,.int .i64 0],109⟩ (by simp)).1).1 (hc.st.ow (AL,NL,CL,ml) (hc.oso _ (by simp)))).mono ?_
    rintro en w9 ⟨rfl,hb9⟩
    have hR := unhide HR
    exact hK _ _ ⟨⟨_,_,_,_,_,_,_,_,_,_,_,_,_,_⟩,rfl,rfl,{ hR with hc := (hc.call (hc.st.kept hb9) hb9.size (fun y hy => hy)),f1 := (fun _ => rfl) }⟩
   ·obtain rfl : b2 = false := by simpa using hl9
    have hc := hR.hc
    have c9_0 := hc.st.cellAt (hc.old ⟨w3.heap.size + 1,#[.bool sh,.slice AH NH CH,.int .i64 xh],33⟩ (by simp)).1 0 (.bool sh) rfl
    have c9_1 := hc.st.cellAt (hc.old ⟨w3.heap.size + 1,#[.bool sh,.slice AH NH CH,.int .i64 xh],33⟩ (by simp)).1 1 (.slice AH NH CH) rfl
    have c9_2 := hc.st.cellAt (hc.old ⟨w3.heap.size + 1,#[.bool sh,.slice AH NH CH,.int .i64 xh],33⟩ (by simp)).1 2 (.int .i64 xh) rfl
    simp only [] at c9_0 c9_1 c9_2
    refine wpOp_step rfl fun K hK => ?_
    go_simp
    exact hK _ _ ⟨⟨_,_,_,_,_,_,_,_,_,_,_,_,_,_⟩,rfl,rfl,{ hR with hc := hc,f2 := (fun _ => rfl) }⟩
   ·obtain rfl : b3 = false := by simpa using hl9
    obtain ⟨o9,ho9,hd9⟩ := (mem_ready.1 hi9).2
    cases ho9
    have e2 : b2 = true := hd9 ⟨2,.data⟩ (by simp) rfl
    subst e2
    have h9 := hR.f2 rfl
    subst h9
    have hc := hR.hc
    have HR := hide hR
    clear hR
    refine wpOp_step rfl fun K hK => ?_
    go_simp
    go_wp2_with fail
    refine (unhide HHh _ _ _ _ _ _ (hc.st.bx ⟨w2.heap.size,#[.int .i64 E,.int .i64 F,.int .u64 b,.int .u8 md,.int .i64 0],109⟩ (hc.old ⟨w2.heap.size,#[.int .i64 E,.int .i64 F,.int .u64 b,.int .u8 md,.int .i64 0],109⟩ (by simp)).1).1 (hc.st.ow (AH,NH,CH,mh) (hc.oso _ (by simp)))).mono ?_
    rintro en w9 ⟨rfl,hb9⟩
    have hR := unhide HR
    exact hK _ _ ⟨⟨_,_,_,_,_,_,_,_,_,_,_,_,_,_⟩,rfl,rfl,{ hR with hc := (hc.call (hc.st.kept hb9) hb9.size (fun y hy => hy)),f3 := (fun _ => rfl) }⟩
   ·obtain rfl : b4 = false := by simpa using hl9
    obtain ⟨o9,ho9,hd9⟩ := (mem_ready.1 hi9).2
    cases ho9
    have e1 : b1 = true := hd9 ⟨1,.data⟩ (by simp) rfl
    subst e1
    have h9 := hR.f1 rfl
    subst h9
    have hc := hR.hc
    refine wpOp_step rfl fun K hK => ?_
    go_simp
    exact hK _ _ ⟨⟨_,_,_,_,_,_,_,_,_,_,_,_,_,_⟩,rfl,rfl,{ hR with hc := hc,f4 := (fun _ => rfl) }⟩
   ·obtain rfl : b5 = false := by simpa using hl9
    obtain ⟨o9,ho9,hd9⟩ := (mem_ready.1 hi9).2
    cases ho9
    have e3 : b3 = true := hd9 ⟨3,.data⟩ (by simp) rfl
    subst e3
    have h9 := hR.f3 rfl
    subst h9
    have hc := hR.hc
    refine wpOp_step rfl fun K hK => ?_
    go_simp
    exact hK _ _ ⟨⟨_,_,_,_,_,_,_,_,_,_,_,_,_,_⟩,rfl,rfl,{ hR with hc := hc,f5 := (fun _ => rfl) }⟩
  ·rintro l act Wq4 ⟨⟨b0,b1,b2,b3,b4,b5,v0,v1,v2,v3,v4,v5,bs9,os9⟩,rfl,rfl,hR⟩ hr9
   obtain ⟨hc,f0,f1,f2,f3,f4,f5⟩ := hR
   have eall := all_done hr9 (by kernel_rfl) rfl
   obtain rfl : b0 = true := eall 0 (by decide)
   obtain rfl : b1 = true := eall 1 (by decide)
   obtain rfl : b2 = true := eall 2 (by decide)
   obtain rfl : b3 = true := eall 3 (by decide)
   obtain rfl : b4 = true := eall 4 (by decide)
   obtain rfl : b5 = true := eall 5 (by decide)
   clear hr9 eall
   have h9 := f0 rfl
   subst h9
   have h9 := f1 rfl
   subst h9
   have h9 := f2 rfl
   subst h9
   have h9 := f3 rfl
   subst h9
   have h9 := f4 rfl
   subst h9
   have h9 := f5 rfl
   subst h9
   have hbs9 : ∀ x,x ∈ ([⟨w.heap.size + 1 + 1,#[.bool sh,.slice x3_A8 x3_N8 x3_C8,.slice x3_P8 x3_Q8 x3_R8],48⟩,⟨w.heap.size + 1,#[.bool sl,.slice x3_A2 x3_N2 x3_C2,.slice x3_P2 x3_Q2 x3_R2],48⟩,⟨w3.heap.size + 1,#[.bool sh,.slice AH NH CH,.int .i64 xh],33⟩,⟨w3.heap.size,#[.bool sl,.slice AL NL CL,.int .i64 xl],33⟩,⟨w2.heap.size,#[.int .i64 E,.int .i64 F,.int .u64 b,.int .u8 md,.int .i64 0],109⟩] : List En) → x ∈ bs9 := by
    intro x hx
    rcases List.mem_cons.1 hx with rfl | hx
    ·exact (hc.old _ (by simp)).1
    rcases List.mem_cons.1 hx with rfl | hx
    ·exact (hc.old _ (by simp)).1
    rcases List.mem_cons.1 hx with rfl | hx
    ·exact (hc.old _ (by simp)).1
    rcases List.mem_cons.1 hx with rfl | hx
    ·exact (hc.old _ (by simp)).1
    rcases List.mem_cons.1 hx with rfl | hx
    ·exact (hc.old _ (by simp)).1
    exact absurd hx List.not_mem_nil
   have hos9 : ∀ x,x ∈ ([(x3_A2,x3_N2,x3_C2,nl),(x3_P2,x3_Q2,x3_R2,dl),(x3_A8,x3_N8,x3_C8,nh),(x3_P8,x3_Q8,x3_R8,dh),(AH,NH,CH,mh),(AL,NL,CL,ml)] : Os) → x ∈ os9 := by
    intro x hx
    rcases List.mem_cons.1 hx with rfl | hx
    ·exact hc.oso _ (by simp)
    rcases List.mem_cons.1 hx with rfl | hx
    ·exact hc.oso _ (by simp)
    rcases List.mem_cons.1 hx with rfl | hx
    ·exact hc.oso _ (by simp)
    rcases List.mem_cons.1 hx with rfl | hx
    ·exact hc.oso _ (by simp)
    rcases List.mem_cons.1 hx with rfl | hx
    ·exact hc.oso _ (by simp)
    rcases List.mem_cons.1 hx with rfl | hx
    ·exact hc.oso _ (by simp)
    exact absurd hx List.not_mem_nil
   have hS := hc.st.sub hbs9 (fun x hx => hx) hos9
   have hsz9 := hc.sz
   rw [hS9z,hsW9] at hsz9
   clear hbs9 hos9 hc f0 f1 f2 f3 f4 f5
   have hz4 := hsz9
   clear hsz9 hS9z hS9 hC9 hsW9
   obtain ⟨⟨k0_0,k0_1,k0_2,k0_3,k0_4,-⟩,-⟩ := hS.cz ⟨w2.heap.size,#[.int .i64 E,.int .i64 F,.int .u64 b,.int .u8 md,.int .i64 0],109⟩ (by simp)
   simp only [] at k0_0 k0_1 k0_2 k0_3 k0_4
   go_wp2_with fail
   clear k0_0 k0_1 k0_2 k0_3 k0_4
   have hS2 : Fs w Wq4 [⟨w.heap.size + 1 + 1,#[.bool sh,.slice x3_A8 x3_N8 x3_C8,.slice x3_P8 x3_Q8 x3_R8],48⟩,⟨w.heap.size + 1,#[.bool sl,.slice x3_A2 x3_N2 x3_C2,.slice x3_P2 x3_Q2 x3_R2],48⟩,⟨w3.heap.size + 1,#[.bool sh,.slice AH NH CH,.int .i64 xh],33⟩,⟨w3.heap.size,#[.bool sl,.slice AL NL CL,.int .i64 xl],33⟩,⟨w2.heap.size,#[.int .i64 E,.int .i64 F,.int .u64 b,.int .u8 md,.int .i64 0],109⟩] := ⟨fun x hx => (hS.bx x hx).1,hS.fr⟩
   refine wp_region_any (by kernel_rfl) ?_
   refine wpAny_det [some (69,.agg #[.bool sl,.slice x3_A2 x3_N2 x3_C2,.slice x3_P2 x3_Q2 x3_R2]),some (70,.agg #[.bool sh,.slice x3_A8 x3_N8 x3_C8,.slice x3_P8 x3_Q8 x3_R8]),some (71,.bool li),some (72,.bool hi),none,none,some (8,.bool li),some (9,.bool hi),some (10,.int .i64 0)]
    (fun _ W9 => W9 = Wq4.drew) _ _ rfl (by kernel_rfl) rfl rfl ?_ ?_ rfl
   ·intro l9 t9 W9 i9 hD hi9 hl9 hM
    obtain ⟨o9,ho9,hd9⟩ := (mem_ready.1 hi9).2
    have hin9 : i9 < 9 := by
     by_cases h : i9 < 9
     ·exact h
     ·rw [Array.getElem?_eq_none (by rw [hD.len]; simp; omega)] at hl9; cases hl9
    have hcase : i9 = 0 ∨ i9 = 1 ∨ i9 = 2 ∨ i9 = 3 ∨ i9 = 4 ∨ i9 = 5 ∨ i9 = 6 ∨ i9 = 7 ∨ i9 = 8 := by omega
    clear hin9
    rcases hcase with rfl | rfl | rfl | rfl | rfl | rfl | rfl | rfl | rfl
    ·cases ho9
     have r6 := hD.old 6 _ rfl rfl
     have hM0 : Fs w W9 [⟨w.heap.size + 1 + 1,#[.bool sh,.slice x3_A8 x3_N8 x3_C8,.slice x3_P8 x3_Q8 x3_R8],48⟩,⟨w.heap.size + 1,#[.bool sl,.slice x3_A2 x3_N2 x3_C2,.slice x3_P2 x3_Q2 x3_R2],48⟩,⟨w3.heap.size + 1,#[.bool sh,.slice AH NH CH,.int .i64 xh],33⟩,⟨w3.heap.size,#[.bool sl,.slice AL NL CL,.int .i64 xl],33⟩,⟨w2.heap.size,#[.int .i64 E,.int .i64 F,.int .u64 b,.int .u8 md,.int .i64 0],109⟩] := by rw [hM]; exact hS2.drew
     have Q_ := hM0.cellAt (b := w.heap.size + 1) (cs := #[.bool sl,.slice x3_A2 x3_N2 x3_C2,.slice x3_P2 x3_Q2 x3_R2]) (t := 48) (by simp)
     have c9_0 := Q_ 0 _ rfl
     have c9_1 := Q_ 1 _ rfl
     have c9_2 := Q_ 2 _ rfl
     clear Q_
     clear hM0
     have HM9 := hide hM
     clear hM
     refine wpOp_step rfl fun K hK => ?_
     go_simp
     exact hK _ _ ⟨rfl,unhide HM9⟩
    ·cases ho9
     have r7 := hD.old 7 _ rfl rfl
     have hM0 : Fs w W9 [⟨w.heap.size + 1 + 1,#[.bool sh,.slice x3_A8 x3_N8 x3_C8,.slice x3_P8 x3_Q8 x3_R8],48⟩,⟨w.heap.size + 1,#[.bool sl,.slice x3_A2 x3_N2 x3_C2,.slice x3_P2 x3_Q2 x3_R2],48⟩,⟨w3.heap.size + 1,#[.bool sh,.slice AH NH CH,.int .i64 xh],33⟩,⟨w3.heap.size,#[.bool sl,.slice AL NL CL,.int .i64 xl],33⟩,⟨w2.heap.size,#[.int .i64 E,.int .i64 F,.int .u64 b,.int .u8 md,.int .i64 0],109⟩] := by rw [hM]; exact hS2.drew
     have Q_ := hM0.cellAt (b := w.heap.size + 1 + 1) (cs := #[.bool sh,.slice x3_A8 x3_N8 x3_C8,.slice x3_P8 x3_Q8 x3_R8]) (t := 48) (by simp)
     have c9_0 := Q_ 0 _ rfl
     have c9_1 := Q_ 1 _ rfl
     have c9_2 := Q_ 2 _ rfl
     clear Q_
     clear hM0
     have HM9 := hide hM
     clear hM
     refine wpOp_step rfl fun K hK => ?_
     go_simp
     exact hK _ _ ⟨rfl,unhide HM9⟩
    ·cases ho9
     have r8 := hD.wait rfl 2 6 8 _ _ _ ⟨2,.data⟩ hl9 rfl rfl (by simp) rfl rfl rfl
     have HM9 := hide hM
     clear hM
     refine wpOp_step rfl fun K hK => ?_
     go_simp
     exact hK _ _ ⟨rfl,unhide HM9⟩
    ·cases ho9
     have r9 := hD.wait rfl 3 7 9 _ _ _ ⟨3,.data⟩ hl9 rfl rfl (by simp) rfl rfl rfl
     have HM9 := hide hM
     clear hM
     refine wpOp_step rfl fun K hK => ?_
     go_simp
     exact hK _ _ ⟨rfl,unhide HM9⟩
    ·cases ho9
     have r6 := hD.old 6 _ rfl rfl
     have r69 := hD.od hd9 0 69 _ rfl (by simp)
     have hM0 : Fs w W9 [⟨w.heap.size + 1 + 1,#[.bool sh,.slice x3_A8 x3_N8 x3_C8,.slice x3_P8 x3_Q8 x3_R8],48⟩,⟨w.heap.size + 1,#[.bool sl,.slice x3_A2 x3_N2 x3_C2,.slice x3_P2 x3_Q2 x3_R2],48⟩,⟨w3.heap.size + 1,#[.bool sh,.slice AH NH CH,.int .i64 xh],33⟩,⟨w3.heap.size,#[.bool sl,.slice AL NL CL,.int .i64 xl],33⟩,⟨w2.heap.size,#[.int .i64 E,.int .i64 F,.int .u64 b,.int .u8 md,.int .i64 0],109⟩] := by rw [hM]; exact hS2.drew
     have c9_0 := hM0.cellAt (b := w.heap.size + 1) (cs := #[.bool sl,.slice x3_A2 x3_N2 x3_C2,.slice x3_P2 x3_Q2 x3_R2]) (t := 48) (by simp) 0 _ rfl
     have z9_0 := hM0.frozen (b := w.heap.size + 1) (cs := #[.bool sl,.slice x3_A2 x3_N2 x3_C2,.slice x3_P2 x3_Q2 x3_R2]) (t := 48) (by simp) 0
     have c9_1 := hM0.cellAt (b := w.heap.size + 1) (cs := #[.bool sl,.slice x3_A2 x3_N2 x3_C2,.slice x3_P2 x3_Q2 x3_R2]) (t := 48) (by simp) 1 _ rfl
     have z9_1 := hM0.frozen (b := w.heap.size + 1) (cs := #[.bool sl,.slice x3_A2 x3_N2 x3_C2,.slice x3_P2 x3_Q2 x3_R2]) (t := 48) (by simp) 1
     have c9_2 := hM0.cellAt (b := w.heap.size + 1) (cs := #[.bool sl,.slice x3_A2 x3_N2 x3_C2,.slice x3_P2 x3_Q2 x3_R2]) (t := 48) (by simp) 2 _ rfl
     have z9_2 := hM0.frozen (b := w.heap.size + 1) (cs := #[.bool sl,.slice x3_A2 x3_N2 x3_C2,.slice x3_P2 x3_Q2 x3_R2]) (t := 48) (by simp) 2
     have HM9 := hide hM
     clear hM
     refine wpOp_step rfl fun K hK => ?_
     go_simp
     exact hK _ _ ⟨rfl,(by rw [setCell_still (j := 0) (u := .bool sl) (hM0.bx ⟨w.heap.size + 1,#[.bool sl,.slice x3_A2 x3_N2 x3_C2,.slice x3_P2 x3_Q2 x3_R2],48⟩ (by simp)) rfl,setCell_still (j := 1) (u := .slice x3_A2 x3_N2 x3_C2) (hM0.bx ⟨w.heap.size + 1,#[.bool sl,.slice x3_A2 x3_N2 x3_C2,.slice x3_P2 x3_Q2 x3_R2],48⟩ (by simp)) rfl,setCell_still (j := 2) (u := .slice x3_P2 x3_Q2 x3_R2) (hM0.bx ⟨w.heap.size + 1,#[.bool sl,.slice x3_A2 x3_N2 x3_C2,.slice x3_P2 x3_Q2 x3_R2],48⟩ (by simp)) rfl]; exact unhide HM9)⟩
    ·cases ho9
     have r7 := hD.old 7 _ rfl rfl
     have r70 := hD.od hd9 1 70 _ rfl (by simp)
     have hM0 : Fs w W9 [⟨w.heap.size + 1 + 1,#[.bool sh,.slice x3_A8 x3_N8 x3_C8,.slice x3_P8 x3_Q8 x3_R8],48⟩,⟨w.heap.size + 1,#[.bool sl,.slice x3_A2 x3_N2 x3_C2,.slice x3_P2 x3_Q2 x3_R2],48⟩,⟨w3.heap.size + 1,#[.bool sh,.slice AH NH CH,.int .i64 xh],33⟩,⟨w3.heap.size,#[.bool sl,.slice AL NL CL,.int .i64 xl],33⟩,⟨w2.heap.size,#[.int .i64 E,.int .i64 F,.int .u64 b,.int .u8 md,.int .i64 0],109⟩] := by rw [hM]; exact hS2.drew
     have c9_0 := hM0.cellAt (b := w.heap.size + 1 + 1) (cs := #[.bool sh,.slice x3_A8 x3_N8 x3_C8,.slice x3_P8 x3_Q8 x3_R8]) (t := 48) (by simp) 0 _ rfl
     have z9_0 := hM0.frozen (b := w.heap.size + 1 + 1) (cs := #[.bool sh,.slice x3_A8 x3_N8 x3_C8,.slice x3_P8 x3_Q8 x3_R8]) (t := 48) (by simp) 0
     have c9_1 := hM0.cellAt (b := w.heap.size + 1 + 1) (cs := #[.bool sh,.slice x3_A8 x3_N8 x3_C8,.slice x3_P8 x3_Q8 x3_R8]) (t := 48) (by simp) 1 _ rfl
     have z9_1 := hM0.frozen (b := w.heap.size + 1 + 1) (cs := #[.bool sh,.slice x3_A8 x3_N8 x3_C8,.slice x3_P8 x3_Q8 x3_R8]) (t := 48) (by simp) 1
     have c9_2 := hM0.cellAt (b := w.heap.size + 1 + 1) (cs := #[.bool sh,.slice x3_A8 x3_N8 x3_C8,.slice x3_P8 x3_Q8 x3_R8]) (t := 48) (by simp) 2 _ rfl
     have z9_2 := hM0.frozen (b := w.heap.size + 1 + 1) (cs := #[.bool sh,.slice x3_A8 x3_N8 x3_C8,.slice x3_P8 x3_Q8 x3_R8]) (t := 48) (by simp) 2
     have HM9 := hide hM
     clear hM
     refine wpOp_step rfl fun K hK => ?_
     go_simp
     exact hK _ _ ⟨rfl,(by rw [setCell_still (j := 0) (u := .bool sh) (hM0.bx ⟨w.heap.size + 1 + 1,#[.bool sh,.slice x3_A8 x3_N8 x3_C8,.slice x3_P8 x3_Q8 x3_R8],48⟩ (by simp)) rfl,setCell_still (j := 1) (u := .slice x3_A8 x3_N8 x3_C8) (hM0.bx ⟨w.heap.size + 1 + 1,#[.bool sh,.slice x3_A8 x3_N8 x3_C8,.slice x3_P8 x3_Q8 x3_R8],48⟩ (by simp)) rfl,setCell_still (j := 2) (u := .slice x3_P8 x3_Q8 x3_R8) (hM0.bx ⟨w.heap.size + 1 + 1,#[.bool sh,.slice x3_A8 x3_N8 x3_C8,.slice x3_P8 x3_Q8 x3_R8],48⟩ (by simp)) rfl]; exact unhide HM9)⟩
    ·cases ho9
     have r71 := hD.od hd9 2 71 _ rfl (by simp)
     have HM9 := hide hM
     clear hM
     refine wpOp_step rfl fun K hK => ?_
     go_simp
     exact hK _ _ ⟨rfl,unhide HM9⟩
    ·cases ho9
     have r72 := hD.od hd9 3 72 _ rfl (by simp)
     have HM9 := hide hM
     clear hM
     refine wpOp_step rfl fun K hK => ?_
     go_simp
     exact hK _ _ ⟨rfl,unhide HM9⟩
    ·cases ho9
     have HM9 := hide hM
     clear hM
     refine wpOp_step rfl fun K hK => ?_
     go_simp
     exact hK _ _ ⟨rfl,unhide HM9⟩
   ·intro l9 W9 hl9 hM
    subst hM
    replace hS := hS.drew
    simp only [Puts.lay,List.setIfInBounds_toArray,List.set_cons_zero,List.set_cons_succ]
    obtain ⟨⟨k0_0,k0_1,k0_2,-⟩,-⟩ := hS.cz ⟨w.heap.size + 1 + 1,#[.bool sh,.slice x3_A8 x3_N8 x3_C8,.slice x3_P8 x3_Q8 x3_R8],48⟩ (by simp)
    obtain ⟨⟨k1_0,k1_1,k1_2,-⟩,-⟩ := hS.cz ⟨w.heap.size + 1,#[.bool sl,.slice x3_A2 x3_N2 x3_C2,.slice x3_P2 x3_Q2 x3_R2],48⟩ (by simp)
    simp only [] at k0_0 k0_1 k0_2 k1_0 k1_1 k1_2
    go_wp2
    exact bodyPost_ret (v := .tuple #[.agg #[.bool sl,.slice x3_A2 x3_N2 x3_C2,.slice x3_P2 x3_Q2 x3_R2],.agg #[.bool sh,.slice x3_A8 x3_N8 x3_C8,.slice x3_P8 x3_Q8 x3_R8],.bool li,.bool hi,.int .i64 0]) (by simp [results,Tryz.results26,go_sem,k0_0,k0_1,k0_2,k1_0,k1_1,k1_2]) rfl ⟨⟨_,_,_,_,_,_,_,_,_,_,_,_,rfl,hS.ow (x3_A2,x3_N2,x3_C2,nl) (by simp),hS.ow (x3_P2,x3_Q2,x3_R2,dl) (by simp),hS.ow (x3_A8,x3_N8,x3_C8,nh) (by simp),hS.ow (x3_P8,x3_Q8,x3_R8,dh) (by simp)⟩,hS.fr⟩
  ·simp
  ·exact ⟨⟨false,false,false,false,false,false,undef,undef,undef,undef,.bool false,.bool false,_,_⟩,rfl,rfl,⟨hC9,nb,nb,nb,nb,nb,nb⟩⟩
 ·simp
 ·exact ⟨⟨false,false,false,false,false,false,false,false,false,false,false,false,false,false,undef,undef,undef,undef,undef,undef,undef,undef,undef,undef,undef,undef,none,0,0,none,0,0,none,0,0,none,0,0,_,_⟩,rfl,rfl,⟨hC9,nb,nb,nb,nb,nb,nb,nb,nb,nb,nb,nb,nb,(fun _ => by simp),nb,(fun _ => by simp),nb,nb,nb,nb,nb,nb,nb,nb,nb,nb,nb,nb⟩⟩
theorem Rs.workR {w0 W : World} {bs : List En} {ms : List (Option Addr × Nat × Nat)} {os : List (Option Addr × Nat × Nat × Nat)} (h : Rs w0 W none bs ms os) : Rs w0 (W.alloc (.cells #[.int .i64 0] 100)) (some (W.heap.size,0)) bs ms os := by
 have h' := h.kept (gr_alloc W (.cells #[.int .i64 0] 100))
 refine ⟨Wk.made W 0 _,fun x hx => ?_,h'.nm,h'.ow,But.of h'.fr⟩
 have h1 := h.bx x hx
 have h2 := h'.bx x hx
 exact ⟨h2.1,by have := block_lt h1.1; show x.b ≠ W.heap.size; omega,h2.2.2⟩
theorem Wk.rn {w : World} {p : Nat} {e : Int} (h : Wk w p e) : RnE w p 0 e := by
 obtain ⟨t,_,h1⟩ := h
 exact ⟨_,t,h1,rfl⟩
theorem runDy_any (p : Nat) (e0 er : Int) (s : Bool) (a : Option Addr) (n c : Nat) (x : Int) (w : World) (hk : Wk w p e0) :
  Calls Tryz.prog 68 #[.pointer (some ⟨p,0,none⟩),.agg #[.bool s,.slice a n c,.int .i64 x],.int .i64 er] w (RunAns p e0 er (.agg #[.bool s,.slice a n c,.int .i64 x]) w) := by
 have hS := (((Rs.begin_work hk).alloc #[.bool s,.slice a n c,.int .i64 x] 33)).alloc #[.bool false,.slice none 0 0,.int .i64 0] 33
 simp only [World.size_alloc] at hS
 go_enter Tryz.func68,Tryz.ntmps68
 go_wp2_with fail
 refine (keep_any p e0 er _ hS.wk).mono ?_
 rintro en w1 ⟨rfl,hk1,hb1⟩
 have hS1 := hS.call hb1 hk1
 clear hb1 hk1 hS hk
 obtain ⟨⟨c0,c1,c2,-⟩,⟨d0,d1,d2,-⟩,-⟩ := hS1.cells
 have Q_ := hS1.frozen (x := ⟨w.heap.size + 1,#[.bool false,.slice none 0 0,.int .i64 0],33⟩) (by simp)
 have f0 := Q_ 0
 have f1 := Q_ 1
 have f2 := Q_ 2
 clear Q_
 simp only [] at f0 f1 f2
 go_wp2
 have hS4 := ((hS1.put (x := ⟨w.heap.size + 1,#[.bool false,.slice none 0 0,.int .i64 0],33⟩) (by simp) (by simp only []; omega) 0 (.bool s) (by simp) [⟨w.heap.size + 1,#[.bool s,.slice none 0 0,.int .i64 0],33⟩] (by simp)).put (x := ⟨w.heap.size + 1,#[.bool s,.slice none 0 0,.int .i64 0],33⟩) (by simp) (by simp only []; omega) 1 (.slice a n c) (by simp) [⟨w.heap.size + 1,#[.bool s,.slice a n c,.int .i64 0],33⟩] (by simp)).put (x := ⟨w.heap.size + 1,#[.bool s,.slice a n c,.int .i64 0],33⟩) (by simp) (by simp only []; omega) 2 (.int .i64 x) (by simp) [] (by simp)
 exact bodyPost_ret (v := .agg #[.bool s,.slice a n c,.int .i64 x]) (by simp [results,Tryz.results68,go_sem,c0,c1,c2]) rfl ⟨rfl,hS4.wk,hS4.fr⟩
theorem W_rDy {w0 W : World} {p : Nat} {e er x : Int} {s : Bool} {a : Option Addr} {n c : Nat} {bs : List En} {ms : Ms} {os : Os} (hS : Rs w0 W (some (p,e)) bs ms os) :
  Calls Tryz.prog 68 #[.pointer (some ⟨p,0,none⟩),.agg #[.bool s,.slice a n c,.int .i64 x],.int .i64 er] W (fun en W' => ∃ e',en = .returned (.agg #[.bool s,.slice a n c,.int .i64 x]) ∧ Rs w0 W' (some (p,e')) bs ms os ∧ e' = Kp e er ∧ W.heap.size ≤ W'.heap.size) := by
 refine (runDy_any p e er s a n c x W hS.wk).mono ?_
 rintro en W' ⟨rfl,hk,hb⟩
 exact ⟨_,rfl,hS.call hb hk,rfl,hb.size⟩
end Go.Proofs.YtkebhccbhoamjaaGreatDoor
