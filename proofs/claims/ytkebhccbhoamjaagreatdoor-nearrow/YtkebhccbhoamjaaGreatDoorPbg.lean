/- Of what NearRowRow stands on: NrCmp NrCall. -/
import Derived.Test.YtkebhccbhoamjaaGreatDoorPbd
import Derived.Test.YtkebhccbhoamjaaGreatDoorPau
import Derived.Test.YtkebhccbhoamjaaGreatDoorPab
namespace Go.Proofs.YtkebhccbhoamjaaGreatDoor
open Go.RowKit
set_option maxHeartbeats 4000000
set_option maxRecDepth 20000
structure Ncmeq3S where
 (b0 b1 b2 b3 b4 b5 b6 b7 b8 b9 : Bool)
 (v0 v1 v2 v3 v4 v5 v6 v7 : Value)
 bs9 : List En
 os9 : Os
structure Ncmeq3R (w : World) (E F a b qa ra qb rb : Int) (w1 : World) (S9 : Nat) (b0 b1 b2 b3 b4 b5 b6 b7 b8 b9 : Bool) (v0 v1 v2 v3 v4 v5 v6 v7 : Value)  (bs9 : List En) (os9 : Os) (w' : World) : Prop where
 hc : Rc w S9 [⟨w.heap.size,#[.int .i64 E,.int .i64 F],23⟩] [] [] none bs9 os9 w'
 f0 : b0 = true → v0 = .agg #[.int .i64 E,.int .i64 F]
 f1 : b1 = true → v1 = .int .u64 a
 f2 : b2 = true → v2 = .agg #[.int .u64 qa,.int .u64 ra]
 f3 : b3 = true → v3 = .agg #[.int .i64 E,.int .i64 F]
 f4 : b4 = true → v4 = .int .u64 b
 f5 : b5 = true → v5 = .agg #[.int .u64 qb,.int .u64 rb]
 f6 : b6 = true → AlN bs9 S9 v6 92 2
 f7 : b7 = true → AlN bs9 S9 v7 92 2
 f8 : b8 = true → StN bs9 S9 v6 #[.int .u64 qa,.int .u64 ra] 92
 f9 : b9 = true → StN bs9 S9 v7 #[.int .u64 qb,.int .u64 rb] 92
 d6_7 : b6 = true → b7 = true → v6 ≠ v7
 g8_6 : b8 = true → b6 = true
 g8_2 : b8 = true → b2 = true
 g9_7 : b9 = true → b7 = true
 g9_5 : b9 = true → b5 = true
def Ncmeq3I (w : World) (E F a b qa ra qb rb : Int) (w1 : World) (S9 : Nat) (l : Array Bool) (act : Act) (w' : World) : Ncmeq3S → Prop
 | ⟨b0,b1,b2,b3,b4,b5,b6,b7,b8,b9,v0,v1,v2,v3,v4,v5,v6,v7,bs9,os9⟩ => l = #[b0,b1,b2,b3,b4,b5,b6,b7,b8,b9] ∧ act = { tmps := #[.agg #[.int .i64 E,.int .i64 F],.int .u64 a,.int .u64 b,.pointer (some ⟨w.heap.size,0,none⟩),undef,undef,.int .i64 0,.bool false,.int .i64 0,.int .i64 0,v6,v7,.agg #[.int .i64 E,.int .i64 F],.int .u64 a,.int .u64 b,.slice (some ⟨w.heap.size + 1,0,none⟩) 2 2,.int .i64 0,.int .i64 0,.bool false,undef,.agg #[.int .i64 E,.int .i64 F],.int .u64 a,.int .u64 b,.slice (some ⟨w1.heap.size,0,none⟩) 2 2,.bool true,.bool false,v0,v1,v2,v3,v4,v5,undef,undef,undef,undef,undef,undef,undef,undef,undef,undef],defers := [] } ∧ Ncmeq3R w E F a b qa ra qb rb w1 S9 b0 b1 b2 b3 b4 b5 b6 b7 b8 b9 v0 v1 v2 v3 v4 v5 v6 v7 bs9 os9 w'
theorem Cmp_eq (w : World) (E F a b qa ra qb rb : Int) (c1 c2 : Int) (h1 : (c1 == (5 : Int)) = false) (h2 : (c2 == (5 : Int)) = false) (H0 : Tel 80 #[.agg #[.int .i64 E,.int .i64 F],.int .u64 a] (.int .i64 0)) (H1 : Tel 80 #[.agg #[.int .i64 E,.int .i64 F],.int .u64 b] (.int .i64 0)) (HC : Tel 37 #[.agg #[.int .i64 E,.int .i64 F],.int .u64 a] (.tuple #[.int .u8 c1,.int .i64 0])) (HD : Tel 37 #[.agg #[.int .i64 E,.int .i64 F],.int .u64 b] (.tuple #[.int .u8 c2,.int .i64 0])) (HP : Tel 61 #[.agg #[.int .i64 E,.int .i64 F],.int .u64 a] (.agg #[.int .u64 qa,.int .u64 ra])) (HQ : Tel 61 #[.agg #[.int .i64 E,.int .i64 F],.int .u64 b] (.agg #[.int .u64 qb,.int .u64 rb])) (hne : (qa == qb && ra == rb) = true) :
  Calls Tryz.prog 18 #[.agg #[.int .i64 E,.int .i64 F],.int .u64 a,.int .u64 b] w fun e w' => e = .returned (.tuple #[.int .i64 0,.bool true,.int .i64 0]) ∧ Below w.heap.size w w' := by
 have hS := Rs.begin w
 replace hS := hS.alloc #[.int .i64 E,.int .i64 F] 23
 try simp only [World.size_alloc] at hS
 go_enter Tryz.func18,Tryz.ntmps18
 go_wp2_with fail
 refine (check2_ok E F _ a b H0 H1 _ (by have := heap_alloc_new (w.alloc (.cells #[.int .i64 E,.int .i64 F] 23)) (.cells #[.int .u64 a,.int .u64 b] 24); simpa only [World.size_alloc] using this)).mono ?_
 rintro en w1 ⟨rfl,hb1⟩
 replace hS := (hS.alloc #[.int .u64 a,.int .u64 b] 24).kept hb1
 replace hS := hS.sub (bs' := [⟨w.heap.size,#[.int .i64 E,.int .i64 F],23⟩]) (ms' := []) (os' := []) (by intro x hx; exact List.mem_cons_of_mem _ hx) (fun _ h => h) (fun _ h => h)
 clear hb1
 obtain ⟨⟨k0_0,k0_1,-⟩,-⟩ := hS.cz ⟨w.heap.size,#[.int .i64 E,.int .i64 F],23⟩ (by simp)
 simp only [] at k0_0 k0_1
 go_wp2_with fail
 refine (numbers2_yes E F c1 h1 c2 h2 _ a b HC HD _ (by have := heap_alloc_new w1 (.cells #[.int .u64 a,.int .u64 b] 24); simpa only [World.size_alloc] using this)).mono ?_
 rintro en w2 ⟨rfl,hb2⟩
 replace hS := (hS.alloc #[.int .u64 a,.int .u64 b] 24).kept hb2
 replace hS := hS.sub (bs' := [⟨w.heap.size,#[.int .i64 E,.int .i64 F],23⟩]) (ms' := []) (os' := []) (by intro x hx; exact List.mem_cons_of_mem _ hx) (fun _ h => h) (fun _ h => h)
 clear k0_0 k0_1
 clear hb2
 obtain ⟨⟨k0_0,k0_1,-⟩,-⟩ := hS.cz ⟨w.heap.size,#[.int .i64 E,.int .i64 F],23⟩ (by simp)
 simp only [] at k0_0 k0_1
 go_wp2_with fail
 clear k0_0 k0_1
 refine wp_region_any (by kernel_rfl) ?_
 change wpAny _ _ _ _ _ _ _ (World.drew _)
 have hS9 := hS.drew
 have hsW9 : (World.drew w2).heap.size = w2.heap.size := by first | rfl | simp
 generalize World.drew w2 = Wd at hS9 hsW9 ⊢
 obtain ⟨S9,hS9z⟩ : ∃ x,x = Wd.heap.size := ⟨_,rfl⟩
 have hC9 := Rc.start (bs := [⟨w.heap.size,#[.int .i64 E,.int .i64 F],23⟩]) hS9 (by simp)
 rw [← hS9z] at hC9
 refine wpAny_inv (fun l act w' => ∃ σ,Ncmeq3I w E F a b qa ra qb rb w1 S9 l act w' σ) ?_ ?_ _ _ _ _ ?_ ?_
 ·intro l act w' i9 hI9 hi9 hl9
  have hin9 : i9 < 10 := by
   by_cases h : i9 < 10
   ·exact h
   ·obtain ⟨⟨⟩,rfl,_⟩ := hI9
    rw [Array.getElem?_eq_none (by simp; omega)] at hl9; cases hl9
  have hcase : i9 = 0 ∨ i9 = 1 ∨ i9 = 2 ∨ i9 = 3 ∨ i9 = 4 ∨ i9 = 5 ∨ i9 = 6 ∨ i9 = 7 ∨ i9 = 8 ∨ i9 = 9 := by omega
  clear hin9
  obtain ⟨⟨b0,b1,b2,b3,b4,b5,b6,b7,b8,b9,v0,v1,v2,v3,v4,v5,v6,v7,bs9,os9⟩,rfl,rfl,hR⟩ := hI9
  rcases hcase with rfl | rfl | rfl | rfl | rfl | rfl | rfl | rfl | rfl | rfl
  ·obtain rfl : b0 = false := by simpa using hl9
   have hc := hR.hc
   have c9_0 := hc.st.cellAt (hc.old ⟨w.heap.size,#[.int .i64 E,.int .i64 F],23⟩ (by simp)).1 0 (.int .i64 E) rfl
   have c9_1 := hc.st.cellAt (hc.old ⟨w.heap.size,#[.int .i64 E,.int .i64 F],23⟩ (by simp)).1 1 (.int .i64 F) rfl
   simp only [] at c9_0 c9_1
   refine wpOp_step rfl fun K hK => ?_
   go_simp
   exact hK _ _ ⟨⟨_,_,_,_,_,_,_,_,_,_,_,_,_,_,_,_,_,_,_,_⟩,rfl,rfl,{ hR with hc := hc,f0 := (fun _ => rfl) }⟩
  ·obtain rfl : b1 = false := by simpa using hl9
   have hc := hR.hc
   refine wpOp_step rfl fun K hK => ?_
   go_simp
   exact hK _ _ ⟨⟨_,_,_,_,_,_,_,_,_,_,_,_,_,_,_,_,_,_,_,_⟩,rfl,rfl,{ hR with hc := hc,f1 := (fun _ => rfl) }⟩
  ·obtain rfl : b2 = false := by simpa using hl9
   obtain ⟨o9,ho9,hd9⟩ := (mem_ready.1 hi9).2
   cases ho9
   have e0 : b0 = true := hd9 ⟨0,.data⟩ (by simp) rfl
   have e1 : b1 = true := hd9 ⟨1,.data⟩ (by simp) rfl
   subst e0 e1
   have h9 := hR.f0 rfl
   subst h9
   have h9 := hR.f1 rfl
   subst h9
   have hc := hR.hc
   have HR := hide hR
   clear hR
   refine wpOp_step rfl fun K hK => ?_
   go_simp
   go_wp2_with fail
   refine (HP _).mono ?_
   rintro en w9 ⟨rfl,hb9⟩
   have hR := unhide HR
   exact hK _ _ ⟨⟨_,_,_,_,_,_,_,_,_,_,_,_,_,_,_,_,_,_,_,_⟩,rfl,rfl,{ hR with hc := (hc.call (hc.st.kept hb9) hb9.size (fun y hy => hy)),f2 := (fun _ => rfl),f8 := (fun h => Bool.noConfusion (hR.g8_2 h)),g8_2 := (fun _ => rfl) }⟩
  ·obtain rfl : b3 = false := by simpa using hl9
   have hc := hR.hc
   have c9_0 := hc.st.cellAt (hc.old ⟨w.heap.size,#[.int .i64 E,.int .i64 F],23⟩ (by simp)).1 0 (.int .i64 E) rfl
   have c9_1 := hc.st.cellAt (hc.old ⟨w.heap.size,#[.int .i64 E,.int .i64 F],23⟩ (by simp)).1 1 (.int .i64 F) rfl
   simp only [] at c9_0 c9_1
   refine wpOp_step rfl fun K hK => ?_
   go_simp
   exact hK _ _ ⟨⟨_,_,_,_,_,_,_,_,_,_,_,_,_,_,_,_,_,_,_,_⟩,rfl,rfl,{ hR with hc := hc,f3 := (fun _ => rfl) }⟩
  ·obtain rfl : b4 = false := by simpa using hl9
   have hc := hR.hc
   refine wpOp_step rfl fun K hK => ?_
   go_simp
   exact hK _ _ ⟨⟨_,_,_,_,_,_,_,_,_,_,_,_,_,_,_,_,_,_,_,_⟩,rfl,rfl,{ hR with hc := hc,f4 := (fun _ => rfl) }⟩
  ·obtain rfl : b5 = false := by simpa using hl9
   obtain ⟨o9,ho9,hd9⟩ := (mem_ready.1 hi9).2
   cases ho9
   have e3 : b3 = true := hd9 ⟨3,.data⟩ (by simp) rfl
   have e4 : b4 = true := hd9 ⟨4,.data⟩ (by simp) rfl
   subst e3 e4
   have h9 := hR.f3 rfl
   subst h9
   have h9 := hR.f4 rfl
   subst h9
   have hc := hR.hc
   have HR := hide hR
   clear hR
   refine wpOp_step rfl fun K hK => ?_
   go_simp
   go_wp2_with fail
   refine (HQ _).mono ?_
   rintro en w9 ⟨rfl,hb9⟩
   have hR := unhide HR
   exact hK _ _ ⟨⟨_,_,_,_,_,_,_,_,_,_,_,_,_,_,_,_,_,_,_,_⟩,rfl,rfl,{ hR with hc := (hc.call (hc.st.kept hb9) hb9.size (fun y hy => hy)),f5 := (fun _ => rfl),f9 := (fun h => Bool.noConfusion (hR.g9_5 h)),g9_5 := (fun _ => rfl) }⟩
  ·obtain rfl : b6 = false := by simpa using hl9
   have hc := hR.hc
   refine wpOp_step rfl fun K hK => ?_
   go_simp
   exact hK _ _ ⟨⟨_,_,_,_,_,_,_,_,_,_,_,_,_,_,_,_,_,_,_,_⟩,rfl,rfl,{ hR with hc := (hc.alloc #[.int .u64 0,.int .u64 0] 92),f6 := (fun _ => AlN.self rfl hc.sz rfl),f7 := (fun h => (hR.f7 h).cons _),f8 := (fun h => Bool.noConfusion (hR.g8_6 h)),f9 := (fun h => (hR.f9 h).cons _),d6_7 := (fun _ h => Ne.symm ((hR.f7 h).ne hc.st)),g8_6 := (fun _ => rfl) }⟩
  ·obtain rfl : b7 = false := by simpa using hl9
   have hc := hR.hc
   refine wpOp_step rfl fun K hK => ?_
   go_simp
   exact hK _ _ ⟨⟨_,_,_,_,_,_,_,_,_,_,_,_,_,_,_,_,_,_,_,_⟩,rfl,rfl,{ hR with hc := (hc.alloc #[.int .u64 0,.int .u64 0] 92),f6 := (fun h => (hR.f6 h).cons _),f7 := (fun _ => AlN.self rfl hc.sz rfl),f8 := (fun h => (hR.f8 h).cons _),f9 := (fun h => Bool.noConfusion (hR.g9_7 h)),d6_7 := (fun h _ => (hR.f6 h).ne hc.st),g9_7 := (fun _ => rfl) }⟩
  ·obtain rfl : b8 = false := by simpa using hl9
   obtain ⟨o9,ho9,hd9⟩ := (mem_ready.1 hi9).2
   cases ho9
   have e2 : b2 = true := hd9 ⟨2,.data⟩ (by simp) rfl
   have e6 : b6 = true := hd9 ⟨6,.data⟩ (by simp) rfl
   subst e2 e6
   have h9 := hR.f2 rfl
   subst h9
   have hc := hR.hc
   obtain ⟨g9,cs9,h9,hg9,hz9,hm9⟩ := hR.f6 rfl
   subst h9
   obtain ⟨y9_0,y9_1,rfl⟩ : ∃ y9_0 y9_1,cs9 = #[y9_0,y9_1] := by
    match cs9,hz9 with
    | ⟨[y9_0,y9_1]⟩,_ => exact ⟨y9_0,y9_1,rfl⟩
   clear hz9
   have fz9_0 := hc.st.frozen hm9 0
   have cz9_0 := hc.st.cellAt hm9 0 y9_0 rfl
   simp only [] at fz9_0 cz9_0
   have fz9_1 := hc.st.frozen hm9 1
   have cz9_1 := hc.st.cellAt hm9 1 y9_1 rfl
   simp only [] at fz9_1 cz9_1
   have hn9 : ∀ x,x ∈ ([⟨w.heap.size,#[.int .i64 E,.int .i64 F],23⟩] : List En) → x.b ≠ g9 := fun x hx => by have := (hc.old x hx).2; omega
   refine wpOp_step rfl fun K hK => ?_
   go_simp
   exact hK _ _ ⟨⟨_,_,_,_,_,_,_,_,_,_,_,_,_,_,_,_,_,_,_,_⟩,rfl,rfl,{ hR with hc := ((hc.store hm9 (by have := hc.w0s; omega) hn9 0 (.int .u64 qa) (by simp)).store (List.mem_cons_self ..) (by have := hc.w0s; omega) hn9 1 (.int .u64 ra) (by simp)),f6 := (fun _ => ⟨g9,_,rfl,hg9,by simp,List.mem_cons_self ..⟩),f7 := (fun h => (((hR.f7 h).but (fun e => hR.d6_7 rfl h e.symm) _).but (fun e => hR.d6_7 rfl h e.symm) _)),f8 := (fun _ => ⟨g9,rfl,hg9,List.mem_cons_self ..⟩),f9 := (fun h => (((hR.f9 h).but (fun e => hR.d6_7 rfl (hR.g9_7 h) e.symm) _).but (fun e => hR.d6_7 rfl (hR.g9_7 h) e.symm) _)),g8_6 := (fun _ => rfl),g8_2 := (fun _ => rfl) }⟩
  ·obtain rfl : b9 = false := by simpa using hl9
   obtain ⟨o9,ho9,hd9⟩ := (mem_ready.1 hi9).2
   cases ho9
   have e5 : b5 = true := hd9 ⟨5,.data⟩ (by simp) rfl
   have e7 : b7 = true := hd9 ⟨7,.data⟩ (by simp) rfl
   subst e5 e7
   have h9 := hR.f5 rfl
   subst h9
   have hc := hR.hc
   obtain ⟨g9,cs9,h9,hg9,hz9,hm9⟩ := hR.f7 rfl
   subst h9
   obtain ⟨y9_0,y9_1,rfl⟩ : ∃ y9_0 y9_1,cs9 = #[y9_0,y9_1] := by
    match cs9,hz9 with
    | ⟨[y9_0,y9_1]⟩,_ => exact ⟨y9_0,y9_1,rfl⟩
   clear hz9
   have fz9_0 := hc.st.frozen hm9 0
   have cz9_0 := hc.st.cellAt hm9 0 y9_0 rfl
   simp only [] at fz9_0 cz9_0
   have fz9_1 := hc.st.frozen hm9 1
   have cz9_1 := hc.st.cellAt hm9 1 y9_1 rfl
   simp only [] at fz9_1 cz9_1
   have hn9 : ∀ x,x ∈ ([⟨w.heap.size,#[.int .i64 E,.int .i64 F],23⟩] : List En) → x.b ≠ g9 := fun x hx => by have := (hc.old x hx).2; omega
   refine wpOp_step rfl fun K hK => ?_
   go_simp
   exact hK _ _ ⟨⟨_,_,_,_,_,_,_,_,_,_,_,_,_,_,_,_,_,_,_,_⟩,rfl,rfl,{ hR with hc := ((hc.store hm9 (by have := hc.w0s; omega) hn9 0 (.int .u64 qb) (by simp)).store (List.mem_cons_self ..) (by have := hc.w0s; omega) hn9 1 (.int .u64 rb) (by simp)),f6 := (fun h => (((hR.f6 h).but (fun e => hR.d6_7 h rfl e) _).but (fun e => hR.d6_7 h rfl e) _)),f7 := (fun _ => ⟨g9,_,rfl,hg9,by simp,List.mem_cons_self ..⟩),f8 := (fun h => (((hR.f8 h).but (fun e => hR.d6_7 (hR.g8_6 h) rfl e) _).but (fun e => hR.d6_7 (hR.g8_6 h) rfl e) _)),f9 := (fun _ => ⟨g9,rfl,hg9,List.mem_cons_self ..⟩),g9_7 := (fun _ => rfl),g9_5 := (fun _ => rfl) }⟩
 ·rintro l act Wq3 ⟨⟨b0,b1,b2,b3,b4,b5,b6,b7,b8,b9,v0,v1,v2,v3,v4,v5,v6,v7,bs9,os9⟩,rfl,rfl,hR⟩ hr9
  obtain ⟨hc,f0,f1,f2,f3,f4,f5,f6,f7,f8,f9,d6_7,g8_6,g8_2,g9_7,g9_5⟩ := hR
  have eall := all_done hr9 (by kernel_rfl) rfl
  obtain rfl : b0 = true := eall 0 (by decide)
  obtain rfl : b1 = true := eall 1 (by decide)
  obtain rfl : b2 = true := eall 2 (by decide)
  obtain rfl : b3 = true := eall 3 (by decide)
  obtain rfl : b4 = true := eall 4 (by decide)
  obtain rfl : b5 = true := eall 5 (by decide)
  obtain rfl : b6 = true := eall 6 (by decide)
  obtain rfl : b7 = true := eall 7 (by decide)
  obtain rfl : b8 = true := eall 8 (by decide)
  obtain rfl : b9 = true := eall 9 (by decide)
  clear hr9 eall
  have h9 := f0 rfl
  subst h9
  have h9 := f1 rfl
  subst h9
  have h9 := f2 rfl
  subst h9
  have h9 := f3 rfl
  subst h9
  have h9 := f4 rfl
  subst h9
  have h9 := f5 rfl
  subst h9
  obtain ⟨x3_g6,h9,hg6,hm6⟩ := f8 rfl
  subst h9
  obtain ⟨x3_g7,h9,hg7,hm7⟩ := f9 rfl
  subst h9
  have hbs9 : ∀ x,x ∈ ([⟨x3_g7,#[.int .u64 qb,.int .u64 rb],92⟩,⟨x3_g6,#[.int .u64 qa,.int .u64 ra],92⟩,⟨w.heap.size,#[.int .i64 E,.int .i64 F],23⟩] : List En) → x ∈ bs9 := by
   intro x hx
   rcases List.mem_cons.1 hx with rfl | hx
   ·exact hm7
   rcases List.mem_cons.1 hx with rfl | hx
   ·exact hm6
   rcases List.mem_cons.1 hx with rfl | hx
   ·exact (hc.old _ (by simp)).1
   exact absurd hx List.not_mem_nil
  have hos9 : ∀ x,x ∈ ([] : Os) → x ∈ os9 := by
   intro x hx
   exact absurd hx List.not_mem_nil
  have hS := hc.st.sub hbs9 (fun x hx => hx) hos9
  have hsz9 := hc.sz
  rw [hS9z,hsW9] at hsz9
  have hlx3_g6 := hg6
  rw [hS9z,hsW9] at hlx3_g6
  have hux3_g6 := block_lt (hc.st.bx _ hm6).1
  simp only [] at hux3_g6
  have hlx3_g7 := hg7
  rw [hS9z,hsW9] at hlx3_g7
  have hux3_g7 := block_lt (hc.st.bx _ hm7).1
  simp only [] at hux3_g7
  have hnx3_6_7 : x3_g6 ≠ x3_g7 := fun e9 => d6_7 rfl rfl (by rw [e9])
  clear hbs9 hos9 hc f0 f1 f2 f3 f4 f5 f6 f7 f8 f9 d6_7 g8_6 g8_2 g9_7 g9_5
  clear hm6 hm7 hg6 hg7
  have hz3 := hsz9
  clear hsz9 hS9z hS9 hC9 hsW9
  obtain ⟨⟨k0_0,k0_1,-⟩,-⟩ := hS.cz ⟨x3_g7,#[.int .u64 qb,.int .u64 rb],92⟩ (by simp)
  obtain ⟨⟨k1_0,k1_1,-⟩,-⟩ := hS.cz ⟨x3_g6,#[.int .u64 qa,.int .u64 ra],92⟩ (by simp)
  simp only [] at k0_0 k0_1 k1_0 k1_1
  have hEq := eq_spot qa ra qb rb
  go_wp2
  go_ret3
  exact ⟨rfl,hS.fr⟩
 ·simp
 ·exact ⟨⟨false,false,false,false,false,false,false,false,false,false,undef,undef,undef,undef,undef,undef,undef,undef,_,_⟩,rfl,rfl,⟨hC9,nb,nb,nb,nb,nb,nb,nb,nb,nb,nb,nb,nb,nb,nb,nb⟩⟩
structure Ncmne4S where
 (b0 b1 b2 b3 b4 b5 : Bool)
 (v0 v1 v2 v3 v4 v5 : Value)
 bs9 : List En
 os9 : Os
structure Ncmne4R (w : World) (E F a b qa ra qb rb x y : Int) (d : Bool) (w1 : World) (x3_g6 : Nat) (x3_g7 : Nat) (S9 : Nat) (b0 b1 b2 b3 b4 b5 : Bool) (v0 v1 v2 v3 v4 v5 : Value)  (bs9 : List En) (os9 : Os) (w' : World) : Prop where
 hc : Rc w S9 [⟨x3_g7,#[.int .u64 qb,.int .u64 rb],92⟩,⟨x3_g6,#[.int .u64 qa,.int .u64 ra],92⟩] [] [] none bs9 os9 w'
 f0 : b0 = true → v0 = .agg #[.int .u64 qa,.int .u64 ra]
 f1 : b1 = true → v1 = .int .i64 x
 f2 : b2 = true → v2 = .agg #[.int .u64 qb,.int .u64 rb]
 f3 : b3 = true → v3 = .int .i64 y
 f4 : b4 = true → v4 = .bool d
 f5 : b5 = true → v5 = .bool d
def Ncmne4I (w : World) (E F a b qa ra qb rb x y : Int) (d : Bool) (w1 : World) (x3_g6 : Nat) (x3_g7 : Nat) (S9 : Nat) (l : Array Bool) (act : Act) (w' : World) : Ncmne4S → Prop
 | ⟨b0,b1,b2,b3,b4,b5,v0,v1,v2,v3,v4,v5,bs9,os9⟩ => l = #[b0,b1,b2,b3,b4,b5] ∧ act = { tmps := #[.agg #[.int .i64 E,.int .i64 F],.int .u64 a,.int .u64 b,.pointer (some ⟨w.heap.size,0,none⟩),undef,undef,.int .i64 0,.bool false,.int .i64 0,.int .i64 0,.pointer (some ⟨x3_g6,0,none⟩),.pointer (some ⟨x3_g7,0,none⟩),.agg #[.int .i64 E,.int .i64 F],.int .u64 a,.int .u64 b,.slice (some ⟨w.heap.size + 1,0,none⟩) 2 2,.int .i64 0,.int .i64 0,.bool false,undef,.agg #[.int .i64 E,.int .i64 F],.int .u64 a,.int .u64 b,.slice (some ⟨w1.heap.size,0,none⟩) 2 2,.bool true,.bool false,.agg #[.int .i64 E,.int .i64 F],.int .u64 a,.agg #[.int .u64 qa,.int .u64 ra],.agg #[.int .i64 E,.int .i64 F],.int .u64 b,.agg #[.int .u64 qb,.int .u64 rb],.bool false,.agg #[.int .u64 qa,.int .u64 ra],.agg #[.int .u64 qb,.int .u64 rb],.bool false,v5,v0,v1,v2,v3,v4],defers := [] } ∧ Ncmne4R w E F a b qa ra qb rb x y d w1 x3_g6 x3_g7 S9 b0 b1 b2 b3 b4 b5 v0 v1 v2 v3 v4 v5 bs9 os9 w'
structure Ncmne3S where
 (b0 b1 b2 b3 b4 b5 b6 b7 b8 b9 : Bool)
 (v0 v1 v2 v3 v4 v5 v6 v7 : Value)
 bs9 : List En
 os9 : Os
structure Ncmne3R (w : World) (E F a b qa ra qb rb : Int) (w1 : World) (S9 : Nat) (b0 b1 b2 b3 b4 b5 b6 b7 b8 b9 : Bool) (v0 v1 v2 v3 v4 v5 v6 v7 : Value)  (bs9 : List En) (os9 : Os) (w' : World) : Prop where
 hc : Rc w S9 [⟨w.heap.size,#[.int .i64 E,.int .i64 F],23⟩] [] [] none bs9 os9 w'
 f0 : b0 = true → v0 = .agg #[.int .i64 E,.int .i64 F]
 f1 : b1 = true → v1 = .int .u64 a
 f2 : b2 = true → v2 = .agg #[.int .u64 qa,.int .u64 ra]
 f3 : b3 = true → v3 = .agg #[.int .i64 E,.int .i64 F]
 f4 : b4 = true → v4 = .int .u64 b
 f5 : b5 = true → v5 = .agg #[.int .u64 qb,.int .u64 rb]
 f6 : b6 = true → AlN bs9 S9 v6 92 2
 f7 : b7 = true → AlN bs9 S9 v7 92 2
 f8 : b8 = true → StN bs9 S9 v6 #[.int .u64 qa,.int .u64 ra] 92
 f9 : b9 = true → StN bs9 S9 v7 #[.int .u64 qb,.int .u64 rb] 92
 d6_7 : b6 = true → b7 = true → v6 ≠ v7
 g8_6 : b8 = true → b6 = true
 g8_2 : b8 = true → b2 = true
 g9_7 : b9 = true → b7 = true
 g9_5 : b9 = true → b5 = true
def Ncmne3I (w : World) (E F a b qa ra qb rb : Int) (w1 : World) (S9 : Nat) (l : Array Bool) (act : Act) (w' : World) : Ncmne3S → Prop
 | ⟨b0,b1,b2,b3,b4,b5,b6,b7,b8,b9,v0,v1,v2,v3,v4,v5,v6,v7,bs9,os9⟩ => l = #[b0,b1,b2,b3,b4,b5,b6,b7,b8,b9] ∧ act = { tmps := #[.agg #[.int .i64 E,.int .i64 F],.int .u64 a,.int .u64 b,.pointer (some ⟨w.heap.size,0,none⟩),undef,undef,.int .i64 0,.bool false,.int .i64 0,.int .i64 0,v6,v7,.agg #[.int .i64 E,.int .i64 F],.int .u64 a,.int .u64 b,.slice (some ⟨w.heap.size + 1,0,none⟩) 2 2,.int .i64 0,.int .i64 0,.bool false,undef,.agg #[.int .i64 E,.int .i64 F],.int .u64 a,.int .u64 b,.slice (some ⟨w1.heap.size,0,none⟩) 2 2,.bool true,.bool false,v0,v1,v2,v3,v4,v5,undef,undef,undef,undef,undef,undef,undef,undef,undef,undef],defers := [] } ∧ Ncmne3R w E F a b qa ra qb rb w1 S9 b0 b1 b2 b3 b4 b5 b6 b7 b8 b9 v0 v1 v2 v3 v4 v5 v6 v7 bs9 os9 w'
theorem Cmp_ne (w : World) (E F a b qa ra qb rb x y : Int) (d : Bool) (c1 c2 : Int) (h1 : (c1 == (5 : Int)) = false) (h2 : (c2 == (5 : Int)) = false) (H0 : Tel 80 #[.agg #[.int .i64 E,.int .i64 F],.int .u64 a] (.int .i64 0)) (H1 : Tel 80 #[.agg #[.int .i64 E,.int .i64 F],.int .u64 b] (.int .i64 0)) (HC : Tel 37 #[.agg #[.int .i64 E,.int .i64 F],.int .u64 a] (.tuple #[.int .u8 c1,.int .i64 0])) (HD : Tel 37 #[.agg #[.int .i64 E,.int .i64 F],.int .u64 b] (.tuple #[.int .u8 c2,.int .i64 0])) (HP : Tel 61 #[.agg #[.int .i64 E,.int .i64 F],.int .u64 a] (.agg #[.int .u64 qa,.int .u64 ra])) (HQ : Tel 61 #[.agg #[.int .i64 E,.int .i64 F],.int .u64 b] (.agg #[.int .u64 qb,.int .u64 rb])) (HX : Tel 62 #[.agg #[.int .u64 qa,.int .u64 ra]] (.int .i64 x)) (HY : Tel 62 #[.agg #[.int .u64 qb,.int .u64 rb]] (.int .i64 y)) (hne : (qa == qb && ra == rb) = false) (h : decide (x < y) = d) :
  Calls Tryz.prog 18 #[.agg #[.int .i64 E,.int .i64 F],.int .u64 a,.int .u64 b] w fun e w' => e = .returned (.tuple #[.int .i64 (cond d (-1) 1),.bool true,.int .i64 0]) ∧ Below w.heap.size w w' := by
 have hS := Rs.begin w
 replace hS := hS.alloc #[.int .i64 E,.int .i64 F] 23
 try simp only [World.size_alloc] at hS
 go_enter Tryz.func18,Tryz.ntmps18
 go_wp2_with fail
 refine (check2_ok E F _ a b H0 H1 _ (by have := heap_alloc_new (w.alloc (.cells #[.int .i64 E,.int .i64 F] 23)) (.cells #[.int .u64 a,.int .u64 b] 24); simpa only [World.size_alloc] using this)).mono ?_
 rintro en w1 ⟨rfl,hb1⟩
 replace hS := (hS.alloc #[.int .u64 a,.int .u64 b] 24).kept hb1
 replace hS := hS.sub (bs' := [⟨w.heap.size,#[.int .i64 E,.int .i64 F],23⟩]) (ms' := []) (os' := []) (by intro x hx; exact List.mem_cons_of_mem _ hx) (fun _ h => h) (fun _ h => h)
 clear hb1
 obtain ⟨⟨k0_0,k0_1,-⟩,-⟩ := hS.cz ⟨w.heap.size,#[.int .i64 E,.int .i64 F],23⟩ (by simp)
 simp only [] at k0_0 k0_1
 go_wp2_with fail
 refine (numbers2_yes E F c1 h1 c2 h2 _ a b HC HD _ (by have := heap_alloc_new w1 (.cells #[.int .u64 a,.int .u64 b] 24); simpa only [World.size_alloc] using this)).mono ?_
 rintro en w2 ⟨rfl,hb2⟩
 replace hS := (hS.alloc #[.int .u64 a,.int .u64 b] 24).kept hb2
 replace hS := hS.sub (bs' := [⟨w.heap.size,#[.int .i64 E,.int .i64 F],23⟩]) (ms' := []) (os' := []) (by intro x hx; exact List.mem_cons_of_mem _ hx) (fun _ h => h) (fun _ h => h)
 clear k0_0 k0_1
 clear hb2
 obtain ⟨⟨k0_0,k0_1,-⟩,-⟩ := hS.cz ⟨w.heap.size,#[.int .i64 E,.int .i64 F],23⟩ (by simp)
 simp only [] at k0_0 k0_1
 go_wp2_with fail
 clear k0_0 k0_1
 refine wp_region_any (by kernel_rfl) ?_
 change wpAny _ _ _ _ _ _ _ (World.drew _)
 have hS9 := hS.drew
 have hsW9 : (World.drew w2).heap.size = w2.heap.size := by first | rfl | simp
 generalize World.drew w2 = Wd at hS9 hsW9 ⊢
 obtain ⟨S9,hS9z⟩ : ∃ x,x = Wd.heap.size := ⟨_,rfl⟩
 have hC9 := Rc.start (bs := [⟨w.heap.size,#[.int .i64 E,.int .i64 F],23⟩]) hS9 (by simp)
 rw [← hS9z] at hC9
 refine wpAny_inv (fun l act w' => ∃ σ,Ncmne3I w E F a b qa ra qb rb w1 S9 l act w' σ) ?_ ?_ _ _ _ _ ?_ ?_
 ·intro l act w' i9 hI9 hi9 hl9
  have hin9 : i9 < 10 := by
   by_cases h : i9 < 10
   ·exact h
   ·obtain ⟨⟨⟩,rfl,_⟩ := hI9
    rw [Array.getElem?_eq_none (by simp; omega)] at hl9; cases hl9
  have hcase : i9 = 0 ∨ i9 = 1 ∨ i9 = 2 ∨ i9 = 3 ∨ i9 = 4 ∨ i9 = 5 ∨ i9 = 6 ∨ i9 = 7 ∨ i9 = 8 ∨ i9 = 9 := by omega
  clear hin9
  obtain ⟨⟨b0,b1,b2,b3,b4,b5,b6,b7,b8,b9,v0,v1,v2,v3,v4,v5,v6,v7,bs9,os9⟩,rfl,rfl,hR⟩ := hI9
  rcases hcase with rfl | rfl | rfl | rfl | rfl | rfl | rfl | rfl | rfl | rfl
  ·obtain rfl : b0 = false := by simpa using hl9
   have hc := hR.hc
   have c9_0 := hc.st.cellAt (hc.old ⟨w.heap.size,#[.int .i64 E,.int .i64 F],23⟩ (by simp)).1 0 (.int .i64 E) rfl
   have c9_1 := hc.st.cellAt (hc.old ⟨w.heap.size,#[.int .i64 E,.int .i64 F],23⟩ (by simp)).1 1 (.int .i64 F) rfl
   simp only [] at c9_0 c9_1
   refine wpOp_step rfl fun K hK => ?_
   go_simp
   exact hK _ _ ⟨⟨_,_,_,_,_,_,_,_,_,_,_,_,_,_,_,_,_,_,_,_⟩,rfl,rfl,{ hR with hc := hc,f0 := (fun _ => rfl) }⟩
  ·obtain rfl : b1 = false := by simpa using hl9
   have hc := hR.hc
   refine wpOp_step rfl fun K hK => ?_
   go_simp
   exact hK _ _ ⟨⟨_,_,_,_,_,_,_,_,_,_,_,_,_,_,_,_,_,_,_,_⟩,rfl,rfl,{ hR with hc := hc,f1 := (fun _ => rfl) }⟩
  ·obtain rfl : b2 = false := by simpa using hl9
   obtain ⟨o9,ho9,hd9⟩ := (mem_ready.1 hi9).2
   cases ho9
   have e0 : b0 = true := hd9 ⟨0,.data⟩ (by simp) rfl
   have e1 : b1 = true := hd9 ⟨1,.data⟩ (by simp) rfl
   subst e0 e1
   have h9 := hR.f0 rfl
   subst h9
   have h9 := hR.f1 rfl
   subst h9
   have hc := hR.hc
   have HR := hide hR
   clear hR
   refine wpOp_step rfl fun K hK => ?_
   go_simp
   go_wp2_with fail
   refine (HP _).mono ?_
   rintro en w9 ⟨rfl,hb9⟩
   have hR := unhide HR
   exact hK _ _ ⟨⟨_,_,_,_,_,_,_,_,_,_,_,_,_,_,_,_,_,_,_,_⟩,rfl,rfl,{ hR with hc := (hc.call (hc.st.kept hb9) hb9.size (fun y hy => hy)),f2 := (fun _ => rfl),f8 := (fun h => Bool.noConfusion (hR.g8_2 h)),g8_2 := (fun _ => rfl) }⟩
  ·obtain rfl : b3 = false := by simpa using hl9
   have hc := hR.hc
   have c9_0 := hc.st.cellAt (hc.old ⟨w.heap.size,#[.int .i64 E,.int .i64 F],23⟩ (by simp)).1 0 (.int .i64 E) rfl
   have c9_1 := hc.st.cellAt (hc.old ⟨w.heap.size,#[.int .i64 E,.int .i64 F],23⟩ (by simp)).1 1 (.int .i64 F) rfl
   simp only [] at c9_0 c9_1
   refine wpOp_step rfl fun K hK => ?_
   go_simp
   exact hK _ _ ⟨⟨_,_,_,_,_,_,_,_,_,_,_,_,_,_,_,_,_,_,_,_⟩,rfl,rfl,{ hR with hc := hc,f3 := (fun _ => rfl) }⟩
  ·obtain rfl : b4 = false := by simpa using hl9
   have hc := hR.hc
   refine wpOp_step rfl fun K hK => ?_
   go_simp
   exact hK _ _ ⟨⟨_,_,_,_,_,_,_,_,_,_,_,_,_,_,_,_,_,_,_,_⟩,rfl,rfl,{ hR with hc := hc,f4 := (fun _ => rfl) }⟩
  ·obtain rfl : b5 = false := by simpa using hl9
   obtain ⟨o9,ho9,hd9⟩ := (mem_ready.1 hi9).2
   cases ho9
   have e3 : b3 = true := hd9 ⟨3,.data⟩ (by simp) rfl
   have e4 : b4 = true := hd9 ⟨4,.data⟩ (by simp) rfl
   subst e3 e4
   have h9 := hR.f3 rfl
   subst h9
   have h9 := hR.f4 rfl
   subst h9
   have hc := hR.hc
   have HR := hide hR
   clear hR
   refine wpOp_step rfl fun K hK => ?_
   go_simp
   go_wp2_with fail
   refine (HQ _).mono ?_
   rintro en w9 ⟨rfl,hb9⟩
   have hR := unhide HR
   exact hK _ _ ⟨⟨_,_,_,_,_,_,_,_,_,_,_,_,_,_,_,_,_,_,_,_⟩,rfl,rfl,{ hR with hc := (hc.call (hc.st.kept hb9) hb9.size (fun y hy => hy)),f5 := (fun _ => rfl),f9 := (fun h => Bool.noConfusion (hR.g9_5 h)),g9_5 := (fun _ => rfl) }⟩
  ·obtain rfl : b6 = false := by simpa using hl9
   have hc := hR.hc
   refine wpOp_step rfl fun K hK => ?_
   go_simp
   exact hK _ _ ⟨⟨_,_,_,_,_,_,_,_,_,_,_,_,_,_,_,_,_,_,_,_⟩,rfl,rfl,{ hR with hc := (hc.alloc #[.int .u64 0,.int .u64 0] 92),f6 := (fun _ => AlN.self rfl hc.sz rfl),f7 := (fun h => (hR.f7 h).cons _),f8 := (fun h => Bool.noConfusion (hR.g8_6 h)),f9 := (fun h => (hR.f9 h).cons _),d6_7 := (fun _ h => Ne.symm ((hR.f7 h).ne hc.st)),g8_6 := (fun _ => rfl) }⟩
  ·obtain rfl : b7 = false := by simpa using hl9
   have hc := hR.hc
   refine wpOp_step rfl fun K hK => ?_
   go_simp
   exact hK _ _ ⟨⟨_,_,_,_,_,_,_,_,_,_,_,_,_,_,_,_,_,_,_,_⟩,rfl,rfl,{ hR with hc := (hc.alloc #[.int .u64 0,.int .u64 0] 92),f6 := (fun h => (hR.f6 h).cons _),f7 := (fun _ => AlN.self rfl hc.sz rfl),f8 := (fun h => (hR.f8 h).cons _),f9 := (fun h => Bool.noConfusion (hR.g9_7 h)),d6_7 := (fun h _ => (hR.f6 h).ne hc.st),g9_7 := (fun _ => rfl) }⟩
  ·obtain rfl : b8 = false := by simpa using hl9
   obtain ⟨o9,ho9,hd9⟩ := (mem_ready.1 hi9).2
   cases ho9
   have e2 : b2 = true := hd9 ⟨2,.data⟩ (by simp) rfl
   have e6 : b6 = true := hd9 ⟨6,.data⟩ (by simp) rfl
   subst e2 e6
   have h9 := hR.f2 rfl
   subst h9
   have hc := hR.hc
   obtain ⟨g9,cs9,h9,hg9,hz9,hm9⟩ := hR.f6 rfl
   subst h9
   obtain ⟨y9_0,y9_1,rfl⟩ : ∃ y9_0 y9_1,cs9 = #[y9_0,y9_1] := by
    match cs9,hz9 with
    | ⟨[y9_0,y9_1]⟩,_ => exact ⟨y9_0,y9_1,rfl⟩
   clear hz9
   have fz9_0 := hc.st.frozen hm9 0
   have cz9_0 := hc.st.cellAt hm9 0 y9_0 rfl
   simp only [] at fz9_0 cz9_0
   have fz9_1 := hc.st.frozen hm9 1
   have cz9_1 := hc.st.cellAt hm9 1 y9_1 rfl
   simp only [] at fz9_1 cz9_1
   have hn9 : ∀ x,x ∈ ([⟨w.heap.size,#[.int .i64 E,.int .i64 F],23⟩] : List En) → x.b ≠ g9 := fun x hx => by have := (hc.old x hx).2; omega
   refine wpOp_step rfl fun K hK => ?_
   go_simp
   exact hK _ _ ⟨⟨_,_,_,_,_,_,_,_,_,_,_,_,_,_,_,_,_,_,_,_⟩,rfl,rfl,{ hR with hc := ((hc.store hm9 (by have := hc.w0s; omega) hn9 0 (.int .u64 qa) (by simp)).store (List.mem_cons_self ..) (by have := hc.w0s; omega) hn9 1 (.int .u64 ra) (by simp)),f6 := (fun _ => ⟨g9,_,rfl,hg9,by simp,List.mem_cons_self ..⟩),f7 := (fun h => (((hR.f7 h).but (fun e => hR.d6_7 rfl h e.symm) _).but (fun e => hR.d6_7 rfl h e.symm) _)),f8 := (fun _ => ⟨g9,rfl,hg9,List.mem_cons_self ..⟩),f9 := (fun h => (((hR.f9 h).but (fun e => hR.d6_7 rfl (hR.g9_7 h) e.symm) _).but (fun e => hR.d6_7 rfl (hR.g9_7 h) e.symm) _)),g8_6 := (fun _ => rfl),g8_2 := (fun _ => rfl) }⟩
  ·obtain rfl : b9 = false := by simpa using hl9
   obtain ⟨o9,ho9,hd9⟩ := (mem_ready.1 hi9).2
   cases ho9
   have e5 : b5 = true := hd9 ⟨5,.data⟩ (by simp) rfl
   have e7 : b7 = true := hd9 ⟨7,.data⟩ (by simp) rfl
   subst e5 e7
   have h9 := hR.f5 rfl
   subst h9
   have hc := hR.hc
   obtain ⟨g9,cs9,h9,hg9,hz9,hm9⟩ := hR.f7 rfl
   subst h9
   obtain ⟨y9_0,y9_1,rfl⟩ : ∃ y9_0 y9_1,cs9 = #[y9_0,y9_1] := by
    match cs9,hz9 with
    | ⟨[y9_0,y9_1]⟩,_ => exact ⟨y9_0,y9_1,rfl⟩
   clear hz9
   have fz9_0 := hc.st.frozen hm9 0
   have cz9_0 := hc.st.cellAt hm9 0 y9_0 rfl
   simp only [] at fz9_0 cz9_0
   have fz9_1 := hc.st.frozen hm9 1
   have cz9_1 := hc.st.cellAt hm9 1 y9_1 rfl
   simp only [] at fz9_1 cz9_1
   have hn9 : ∀ x,x ∈ ([⟨w.heap.size,#[.int .i64 E,.int .i64 F],23⟩] : List En) → x.b ≠ g9 := fun x hx => by have := (hc.old x hx).2; omega
   refine wpOp_step rfl fun K hK => ?_
   go_simp
   exact hK _ _ ⟨⟨_,_,_,_,_,_,_,_,_,_,_,_,_,_,_,_,_,_,_,_⟩,rfl,rfl,{ hR with hc := ((hc.store hm9 (by have := hc.w0s; omega) hn9 0 (.int .u64 qb) (by simp)).store (List.mem_cons_self ..) (by have := hc.w0s; omega) hn9 1 (.int .u64 rb) (by simp)),f6 := (fun h => (((hR.f6 h).but (fun e => hR.d6_7 h rfl e) _).but (fun e => hR.d6_7 h rfl e) _)),f7 := (fun _ => ⟨g9,_,rfl,hg9,by simp,List.mem_cons_self ..⟩),f8 := (fun h => (((hR.f8 h).but (fun e => hR.d6_7 (hR.g8_6 h) rfl e) _).but (fun e => hR.d6_7 (hR.g8_6 h) rfl e) _)),f9 := (fun _ => ⟨g9,rfl,hg9,List.mem_cons_self ..⟩),g9_7 := (fun _ => rfl),g9_5 := (fun _ => rfl) }⟩
 ·rintro l act Wq3 ⟨⟨b0,b1,b2,b3,b4,b5,b6,b7,b8,b9,v0,v1,v2,v3,v4,v5,v6,v7,bs9,os9⟩,rfl,rfl,hR⟩ hr9
  obtain ⟨hc,f0,f1,f2,f3,f4,f5,f6,f7,f8,f9,d6_7,g8_6,g8_2,g9_7,g9_5⟩ := hR
  have eall := all_done hr9 (by kernel_rfl) rfl
  obtain rfl : b0 = true := eall 0 (by decide)
  obtain rfl : b1 = true := eall 1 (by decide)
  obtain rfl : b2 = true := eall 2 (by decide)
  obtain rfl : b3 = true := eall 3 (by decide)
  obtain rfl : b4 = true := eall 4 (by decide)
  obtain rfl : b5 = true := eall 5 (by decide)
  obtain rfl : b6 = true := eall 6 (by decide)
  obtain rfl : b7 = true := eall 7 (by decide)
  obtain rfl : b8 = true := eall 8 (by decide)
  obtain rfl : b9 = true := eall 9 (by decide)
  clear hr9 eall
  have h9 := f0 rfl
  subst h9
  have h9 := f1 rfl
  subst h9
  have h9 := f2 rfl
  subst h9
  have h9 := f3 rfl
  subst h9
  have h9 := f4 rfl
  subst h9
  have h9 := f5 rfl
  subst h9
  obtain ⟨x3_g6,h9,hg6,hm6⟩ := f8 rfl
  subst h9
  obtain ⟨x3_g7,h9,hg7,hm7⟩ := f9 rfl
  subst h9
  have hbs9 : ∀ x,x ∈ ([⟨x3_g7,#[.int .u64 qb,.int .u64 rb],92⟩,⟨x3_g6,#[.int .u64 qa,.int .u64 ra],92⟩,⟨w.heap.size,#[.int .i64 E,.int .i64 F],23⟩] : List En) → x ∈ bs9 := by
   intro x hx
   rcases List.mem_cons.1 hx with rfl | hx
   ·exact hm7
   rcases List.mem_cons.1 hx with rfl | hx
   ·exact hm6
   rcases List.mem_cons.1 hx with rfl | hx
   ·exact (hc.old _ (by simp)).1
   exact absurd hx List.not_mem_nil
  have hos9 : ∀ x,x ∈ ([] : Os) → x ∈ os9 := by
   intro x hx
   exact absurd hx List.not_mem_nil
  have hS := hc.st.sub hbs9 (fun x hx => hx) hos9
  have hsz9 := hc.sz
  rw [hS9z,hsW9] at hsz9
  have hlx3_g6 := hg6
  rw [hS9z,hsW9] at hlx3_g6
  have hux3_g6 := block_lt (hc.st.bx _ hm6).1
  simp only [] at hux3_g6
  have hlx3_g7 := hg7
  rw [hS9z,hsW9] at hlx3_g7
  have hux3_g7 := block_lt (hc.st.bx _ hm7).1
  simp only [] at hux3_g7
  have hnx3_6_7 : x3_g6 ≠ x3_g7 := fun e9 => d6_7 rfl rfl (by rw [e9])
  clear hbs9 hos9 hc f0 f1 f2 f3 f4 f5 f6 f7 f8 f9 d6_7 g8_6 g8_2 g9_7 g9_5
  clear hm6 hm7 hg6 hg7
  have hz3 := hsz9
  clear hsz9 hS9z hS9 hC9 hsW9
  obtain ⟨⟨k0_0,k0_1,-⟩,-⟩ := hS.cz ⟨x3_g7,#[.int .u64 qb,.int .u64 rb],92⟩ (by simp)
  obtain ⟨⟨k1_0,k1_1,-⟩,-⟩ := hS.cz ⟨x3_g6,#[.int .u64 qa,.int .u64 ra],92⟩ (by simp)
  simp only [] at k0_0 k0_1 k1_0 k1_1
  have hEq := eq_spot qa ra qb rb
  go_wp2_with fail
  clear hEq
  clear k0_0 k0_1 k1_0 k1_1
  replace hS := hS.sub (bs' := [⟨x3_g7,#[.int .u64 qb,.int .u64 rb],92⟩,⟨x3_g6,#[.int .u64 qa,.int .u64 ra],92⟩]) (ms' := []) (os' := []) (by intro x hx; rcases List.mem_cons.1 hx with rfl | hx; (simp); rcases List.mem_cons.1 hx with rfl | hx; (simp); exact absurd hx List.not_mem_nil) (by intro x hx; exact absurd hx List.not_mem_nil) (by intro x hx; exact absurd hx List.not_mem_nil)
  refine wp_region_any (by kernel_rfl) ?_
  change wpAny _ _ _ _ _ _ _ (World.drew _)
  have hS9 := hS.drew
  have hsW9 : (World.drew Wq3).heap.size = Wq3.heap.size := by first | rfl | simp
  generalize World.drew Wq3 = Wd at hS9 hsW9 ⊢
  obtain ⟨S9,hS9z⟩ : ∃ x,x = Wd.heap.size := ⟨_,rfl⟩
  have hC9 := Rc.start (bs := [⟨x3_g7,#[.int .u64 qb,.int .u64 rb],92⟩,⟨x3_g6,#[.int .u64 qa,.int .u64 ra],92⟩]) hS9 (by simp)
  rw [← hS9z] at hC9
  refine wpAny_inv (fun l act w' => ∃ σ,Ncmne4I w E F a b qa ra qb rb x y d w1 x3_g6 x3_g7 S9 l act w' σ) ?_ ?_ _ _ _ _ ?_ ?_
  ·intro l act w' i9 hI9 hi9 hl9
   have hin9 : i9 < 6 := by
    by_cases h : i9 < 6
    ·exact h
    ·obtain ⟨⟨⟩,rfl,_⟩ := hI9
     rw [Array.getElem?_eq_none (by simp; omega)] at hl9; cases hl9
   have hcase : i9 = 0 ∨ i9 = 1 ∨ i9 = 2 ∨ i9 = 3 ∨ i9 = 4 ∨ i9 = 5 := by omega
   clear hin9
   obtain ⟨⟨b0,b1,b2,b3,b4,b5,v0,v1,v2,v3,v4,v5,bs9,os9⟩,rfl,rfl,hR⟩ := hI9
   rcases hcase with rfl | rfl | rfl | rfl | rfl | rfl
   ·obtain rfl : b0 = false := by simpa using hl9
    have hc := hR.hc
    have c9_0 := hc.st.cellAt (hc.old ⟨x3_g6,#[.int .u64 qa,.int .u64 ra],92⟩ (by simp)).1 0 (.int .u64 qa) rfl
    have c9_1 := hc.st.cellAt (hc.old ⟨x3_g6,#[.int .u64 qa,.int .u64 ra],92⟩ (by simp)).1 1 (.int .u64 ra) rfl
    simp only [] at c9_0 c9_1
    refine wpOp_step rfl fun K hK => ?_
    go_simp
    exact hK _ _ ⟨⟨_,_,_,_,_,_,_,_,_,_,_,_,_,_⟩,rfl,rfl,{ hR with hc := hc,f0 := (fun _ => rfl) }⟩
   ·obtain rfl : b1 = false := by simpa using hl9
    obtain ⟨o9,ho9,hd9⟩ := (mem_ready.1 hi9).2
    cases ho9
    have e0 : b0 = true := hd9 ⟨0,.data⟩ (by simp) rfl
    subst e0
    have h9 := hR.f0 rfl
    subst h9
    have hc := hR.hc
    have HR := hide hR
    clear hR
    refine wpOp_step rfl fun K hK => ?_
    go_simp
    go_wp2_with fail
    refine (HX _).mono ?_
    rintro en w9 ⟨rfl,hb9⟩
    have hR := unhide HR
    exact hK _ _ ⟨⟨_,_,_,_,_,_,_,_,_,_,_,_,_,_⟩,rfl,rfl,{ hR with hc := (hc.call (hc.st.kept hb9) hb9.size (fun y hy => hy)),f1 := (fun _ => rfl) }⟩
   ·obtain rfl : b2 = false := by simpa using hl9
    have hc := hR.hc
    have c9_0 := hc.st.cellAt (hc.old ⟨x3_g7,#[.int .u64 qb,.int .u64 rb],92⟩ (by simp)).1 0 (.int .u64 qb) rfl
    have c9_1 := hc.st.cellAt (hc.old ⟨x3_g7,#[.int .u64 qb,.int .u64 rb],92⟩ (by simp)).1 1 (.int .u64 rb) rfl
    simp only [] at c9_0 c9_1
    refine wpOp_step rfl fun K hK => ?_
    go_simp
    exact hK _ _ ⟨⟨_,_,_,_,_,_,_,_,_,_,_,_,_,_⟩,rfl,rfl,{ hR with hc := hc,f2 := (fun _ => rfl) }⟩
   ·obtain rfl : b3 = false := by simpa using hl9
    obtain ⟨o9,ho9,hd9⟩ := (mem_ready.1 hi9).2
    cases ho9
    have e2 : b2 = true := hd9 ⟨2,.data⟩ (by simp) rfl
    subst e2
    have h9 := hR.f2 rfl
    subst h9
    have hc := hR.hc
    have HR := hide hR
    clear hR
    refine wpOp_step rfl fun K hK => ?_
    go_simp
    go_wp2_with fail
    refine (HY _).mono ?_
    rintro en w9 ⟨rfl,hb9⟩
    have hR := unhide HR
    exact hK _ _ ⟨⟨_,_,_,_,_,_,_,_,_,_,_,_,_,_⟩,rfl,rfl,{ hR with hc := (hc.call (hc.st.kept hb9) hb9.size (fun y hy => hy)),f3 := (fun _ => rfl) }⟩
   ·obtain rfl : b4 = false := by simpa using hl9
    obtain ⟨o9,ho9,hd9⟩ := (mem_ready.1 hi9).2
    cases ho9
    have e1 : b1 = true := hd9 ⟨1,.data⟩ (by simp) rfl
    have e3 : b3 = true := hd9 ⟨3,.data⟩ (by simp) rfl
    subst e1 e3
    have h9 := hR.f1 rfl
    subst h9
    have h9 := hR.f3 rfl
    subst h9
    have hc := hR.hc
    refine wpOp_step rfl fun K hK => ?_
    go_simp
    exact hK _ _ ⟨⟨_,_,_,_,_,_,_,_,_,_,_,_,_,_⟩,rfl,rfl,{ hR with hc := hc,f4 := (fun _ => by first | rfl | simp [h]) }⟩
   ·obtain rfl : b5 = false := by simpa using hl9
    obtain ⟨o9,ho9,hd9⟩ := (mem_ready.1 hi9).2
    cases ho9
    have e4 : b4 = true := hd9 ⟨4,.data⟩ (by simp) rfl
    subst e4
    have h9 := hR.f4 rfl
    subst h9
    have hc := hR.hc
    refine wpOp_step rfl fun K hK => ?_
    go_simp
    exact hK _ _ ⟨⟨_,_,_,_,_,_,_,_,_,_,_,_,_,_⟩,rfl,rfl,{ hR with hc := hc,f5 := (fun _ => rfl) }⟩
  ·rintro l act Wq4 ⟨⟨b0,b1,b2,b3,b4,b5,v0,v1,v2,v3,v4,v5,bs9,os9⟩,rfl,rfl,hR⟩ hr9
   obtain ⟨hc,f0,f1,f2,f3,f4,f5⟩ := hR
   have eall := all_done hr9 (by kernel_rfl) rfl
   obtain rfl : b0 = true := eall 0 (by decide)
   obtain rfl : b1 = true := eall 1 (by decide)
   obtain rfl : b2 = true := eall 2 (by decide)
   obtain rfl : b3 = true := eall 3 (by decide)
   obtain rfl : b4 = true := eall 4 (by decide)
   obtain rfl : b5 = true := eall 5 (by decide)
   clear hr9 eall
   have h9 := f0 rfl
   subst h9
   have h9 := f1 rfl
   subst h9
   have h9 := f2 rfl
   subst h9
   have h9 := f3 rfl
   subst h9
   have h9 := f4 rfl
   subst h9
   have h9 := f5 rfl
   subst h9
   have hbs9 : ∀ x,x ∈ ([⟨x3_g7,#[.int .u64 qb,.int .u64 rb],92⟩,⟨x3_g6,#[.int .u64 qa,.int .u64 ra],92⟩] : List En) → x ∈ bs9 := by
    intro x hx
    rcases List.mem_cons.1 hx with rfl | hx
    ·exact (hc.old _ (by simp)).1
    rcases List.mem_cons.1 hx with rfl | hx
    ·exact (hc.old _ (by simp)).1
    exact absurd hx List.not_mem_nil
   have hos9 : ∀ x,x ∈ ([] : Os) → x ∈ os9 := by
    intro x hx
    exact absurd hx List.not_mem_nil
   have hS := hc.st.sub hbs9 (fun x hx => hx) hos9
   have hsz9 := hc.sz
   rw [hS9z,hsW9] at hsz9
   clear hbs9 hos9 hc f0 f1 f2 f3 f4 f5
   have hz4 := hsz9
   clear hsz9 hS9z hS9 hC9 hsW9
   cases d
   ·go_wp2
    go_ret3
    exact ⟨rfl,hS.fr⟩
   ·go_wp2
    go_ret3
    exact ⟨rfl,hS.fr⟩
  ·simp
  ·exact ⟨⟨false,false,false,false,false,false,undef,undef,undef,undef,undef,undef,_,_⟩,rfl,rfl,⟨hC9,nb,nb,nb,nb,nb,nb⟩⟩
 ·simp
 ·exact ⟨⟨false,false,false,false,false,false,false,false,false,false,undef,undef,undef,undef,undef,undef,undef,undef,_,_⟩,rfl,rfl,⟨hC9,nb,nb,nb,nb,nb,nb,nb,nb,nb,nb,nb,nb,nb,nb,nb⟩⟩
structure Fm (E F S I : Nat) : Prop where
 fo : Fo E F
 hS : S = 2 ^ (F + E)
 hI : I = (2 ^ E - 1) * 2 ^ F
theorem Fm.top {E F S I : Nat} (h : Fm E F S I) : I + 2 ^ F = S := by
 have h1 := h.hS
 have h2 := h.hI
 have h3 := pow_pos2 E
 have h4 : (2 ^ E - 1) * 2 ^ F + 1 * 2 ^ F = 2 ^ E * 2 ^ F := by rw [← Nat.add_mul,Nat.sub_add_cancel h3]
 rw [Nat.add_comm,Nat.pow_add] at h1
 omega
theorem Fm.lt {E F S I : Nat} (h : Fm E F S I) : I < S := by
 have := h.top
 have := pow_pos2 F
 omega
theorem Fm.six {E F S I : Nat} (h : Fm E F S I) : 6 ≤ I := by
 have h1 : 2 ^ 2 ≤ 2 ^ E := pow_bound h.fo.e2
 have h2 : 2 ^ 1 ≤ 2 ^ F := pow_bound h.fo.f1
 rw [h.hI]
 exact Nat.le_trans (by decide : 6 ≤ 3 * 2) (Nat.mul_le_mul (by omega) (by omega))
theorem Fm.s63 {E F S I : Nat} (h : Fm E F S I) : S ≤ 9223372036854775808 := (half_le h.fo h.hS).2
theorem Fm.i63 {E F S I : Nat} (h : Fm E F S I) : I < 9223372036854774000 := by
 have h1 := h.top
 have h2 := h.s63
 by_cases hF : F = 52
 ·subst hF
  have h3 : (2 : Nat) ^ 52 = 4503599627370496 := by decide
  omega
 ·have h3 := h.fo.f52
  have h4 := h.fo.e11
  have h5 : 2 ^ (F + E) ≤ 2 ^ 62 := pow_bound (by omega)
  rw [← h.hS] at h5
  have h6 : (2 : Nat) ^ 62 = 4611686018427387904 := by decide
  have := pow_pos2 F
  omega
theorem Fm.bt {E F S I b : Nat} (h : Fm E F S I) (hb : b < 2 * S) : b < 2 ^ (F + E + 1) := by rw [Nat.pow_succ,Nat.mul_comm,← h.hS]; exact hb
theorem Fm.tb {E F S I b : Nat} (h : Fm E F S I) (hb : ¬ b < 2 * S) : 2 ^ (F + E + 1) ≤ b := by rw [Nat.pow_succ,Nat.mul_comm,← h.hS]; omega
theorem Fm.nan {E F S I b ex fr : Nat} {neg : Bool} (h : Fm E F S I) (hB : Bt E F b neg ex fr) : cls ex fr (2 ^ E - 1) = 5 ↔ I < b % S := by
 have hr := hB.rest
 rw [← h.hS] at hr
 have h1 := hB.fr_lt
 have h2 := hB.ex_lt
 have hI := h.hI
 have hE : 2 ^ 2 ≤ 2 ^ E := pow_bound h.fo.e2
 have hmul : ex < 2 ^ E - 1 → ex * 2 ^ F + 2 ^ F ≤ (2 ^ E - 1) * 2 ^ F := fun hx => by
  have := Nat.mul_le_mul_right (2 ^ F) (show ex + 1 ≤ 2 ^ E - 1 from hx)
  rw [Nat.add_mul,Nat.one_mul] at this
  exact this
 unfold cls
 by_cases h0 : ex = 0
 ·subst h0
  have := hmul (by omega)
  by_cases h3 : fr = 0
  ·simp [h3]; omega
  ·simp [h3]; omega
 ·by_cases hlt : ex < 2 ^ E - 1
  ·have := hmul hlt
   simp [h0,hlt]; omega
  ·have he : ex = 2 ^ E - 1 := by omega
   have hm : ex * 2 ^ F = I := by rw [he,hI]
   by_cases h3 : fr = 0
   ·simp [h0,hlt,h3]; omega
   ·simp [h0,hlt,h3]; omega
theorem fits_T {E F S I b : Nat} (h : Fm E F S I) (hb : b < 2 * S) : Tel 80 #[.agg #[.int .i64 E,.int .i64 F],.int .u64 (b : Int)] (.int .i64 0) := fun W => fits_ok E F b h.fo (h.bt hb) W
theorem fits_M {E F S I b : Nat} (h : Fm E F S I) (hb : ¬ b < 2 * S) : Tel 80 #[.agg #[.int .i64 E,.int .i64 F],.int .u64 (b : Int)] (.int .i64 6) := fun W => fits_many E F b h.fo (h.tb hb) W
theorem fits_B {E F : Int} (h : NoFo E F) (b : Int) : Tel 80 #[.agg #[.int .i64 E,.int .i64 F],.int .u64 b] (.int .i64 5) := fun W => fits_bad E F h b W
theorem class_T {E F S I b : Nat} (h : Fm E F S I) (hb : b < 2 * S) (hn : b % S ≤ I) : ∃ c : Int,(c == (5 : Int)) = false ∧ Tel 37 #[.agg #[.int .i64 E,.int .i64 F],.int .u64 (b : Int)] (.tuple #[.int .u8 c,.int .i64 0]) := by
 have hB := Bt.of E F b (h.bt hb)
 refine ⟨_,?_,fun W => Class_ok E F b _ _ _ h.fo hB _ (hide rfl) W⟩
 have h5 : ¬ cls (b % 2 ^ (F + E) / 2 ^ F) (b % 2 ^ F) (2 ^ E - 1) = 5 := fun e => by have := (h.nan hB).1 e; omega
 simp only [beq_eq_false_iff_ne,ne_eq]
 omega
theorem class_N {E F S I b : Nat} (h : Fm E F S I) (hb : b < 2 * S) (hn : ¬ b % S ≤ I) : Tel 37 #[.agg #[.int .i64 E,.int .i64 F],.int .u64 (b : Int)] (.tuple #[.int .u8 5,.int .i64 0]) := by
 have hB := Bt.of E F b (h.bt hb)
 intro W
 have h1 := Class_ok E F b _ _ _ h.fo hB _ (hide rfl) W
 rw [(h.nan hB).2 (by omega)] at h1
 exact h1
def infS (S I : Nat) (d : Bool) : Nat := if d then S + I else I
theorem inf_T {E F S I : Nat} (h : Fm E F S I) (d : Bool) : Tel 104 #[.agg #[.int .i64 E,.int .i64 F],.bool d] (.tuple #[.int .u64 (infS S I d : Int),.int .i64 0]) := by
 refine fun W => Inf_ok E F _ (2 ^ E - 1) d h.fo ⟨pow_pos2 F,by have := pow_pos2 E; omega,?_⟩ (hide rfl) W
 rw [← h.hS,← h.hI]
 cases d <;> simp [infS]
theorem spot_T {E F S I b : Nat} (h : Fm E F S I) (hb : b < 2 * S) : Tel 61 #[.agg #[.int .i64 E,.int .i64 F],.int .u64 (b : Int)] (.agg #[.int .u64 (spS S b : Int),.int .u64 ((b % S : Nat) : Int)]) := by
 intro W
 unfold spS
 by_cases h0 : b % S = 0
 ·rw [if_pos h0,h0]; exact spotOf_0 E F S b h.fo (hide h.hS) hb h0 W
 ·rw [if_neg h0]; exact spotOf_n E F S b _ _ h.fo (hide h.hS) hb rfl (by omega) rfl W
theorem div_two {S b : Nat} (h0 : 0 < S) (hb : b < 2 * S) : (b < S ∧ b / S = 0 ∧ b % S = b) ∨ (¬ b < S ∧ b / S = 1 ∧ b % S = b - S) := by
 by_cases h : b < S
 ·exact Or.inl ⟨h,Nat.div_eq_of_lt h,Nat.mod_eq_of_lt h⟩
 ·refine Or.inr ⟨h,?_,?_⟩
  ·rw [Nat.div_eq_iff h0]; omega
  ·rw [Nat.mod_eq_sub_mod (by omega),Nat.mod_eq_of_lt (by omega)]
theorem Fm.pos {E F S I : Nat} (h : Fm E F S I) : 0 < S := by have := h.lt; omega
theorem place_T {E F S I b : Nat} (h : Fm E F S I) (hb : b < 2 * S) : Tel 62 #[.agg #[.int .u64 (spS S b : Int),.int .u64 ((b % S : Nat) : Int)]] (.int .i64 (plc S b)) := by
 intro W
 have h63 := h.s63
 unfold spS plc
 rcases div_two h.pos hb with ⟨h1,h2,h3⟩ | ⟨h1,h2,h3⟩
 ·rw [h2,h3,if_pos h1,ite_self]
  exact place_0 b (by omega) W
 ·rw [if_neg h1,h2,h3]
  by_cases h0 : b - S = 0
  ·rw [if_pos h0,h0,show (S : Int) - (b : Int) = ((0 : Nat) : Int) from by omega]
   exact place_0 0 (by decide) W
  ·rw [if_neg h0,show (S : Int) - (b : Int) = -((b - S : Nat) : Int) from by omega]
   exact place_1 (b - S) (by omega) (by omega) W
theorem row_T {E F S I b : Nat} (h : Fm E F S I) (hb : b < 2 * S) : Tel 66 #[.agg #[.int .i64 E,.int .i64 F],.int .u64 (b : Int)] (.int .i64 (rwN S b)) := by
 intro W
 unfold rwN
 by_cases h1 : b < S
 ·rw [if_pos h1]; exact row_0 E F S b h.fo (hide h.hS) h1 W
 ·rw [if_neg h1]; exact row_1 E F S b _ h.fo (hide h.hS) h1 hb rfl W
def upN (S b : Nat) : Nat := if b < S then b + 1 else if b = S then 1 else b - 1
theorem plc_bd {E F S I b : Nat} (h : Fm E F S I) (hb : b < 2 * S) (hn : b % S ≤ I) : -(I : Int) ≤ plc S b ∧ plc S b ≤ (I : Int) := by
 unfold plc
 rcases div_two h.pos hb with ⟨h1,-,h3⟩ | ⟨h1,-,h3⟩
 ·rw [if_pos h1]; omega
 ·rw [if_neg h1]; omega
theorem sp_ne {S b c : Nat} (h0 : 0 < S) (hb : b < 2 * S) (hc : c < 2 * S) (hne : plc S b ≠ plc S c) : ((spS S b : Int) == (spS S c : Int) && ((b % S : Nat) : Int) == ((c % S : Nat) : Int)) = false := by
 unfold plc at hne
 unfold spS
 simp only [Bool.and_eq_false_iff,beq_eq_false_iff_ne,ne_eq]
 rcases div_two h0 hb with ⟨h1,h2,h3⟩ | ⟨h1,h2,h3⟩ <;> rcases div_two h0 hc with ⟨k1,k2,k3⟩ | ⟨k1,k2,k3⟩ <;> simp only [h1,h2,h3,k1,k2,k3,if_true,if_false] at hne ⊢ <;> (by_cases z1 : b - S = 0 <;> by_cases z2 : c - S = 0 <;> by_cases z3 : b = 0 <;> by_cases z4 : c = 0 <;> simp [z1,z2,z3,z4] at hne ⊢ <;> omega)
theorem sp_eq {S b c : Nat} (h0 : 0 < S) (hb : b < 2 * S) (hc : c < 2 * S) (he : plc S b = plc S c) : ((spS S b : Int) == (spS S c : Int) && ((b % S : Nat) : Int) == ((c % S : Nat) : Int)) = true := by
 unfold plc at he
 unfold spS
 simp only [Bool.and_eq_true,beq_iff_eq]
 rcases div_two h0 hb with ⟨h1,h2,h3⟩ | ⟨h1,h2,h3⟩ <;> rcases div_two h0 hc with ⟨k1,k2,k3⟩ | ⟨k1,k2,k3⟩ <;> simp only [h1,h2,h3,k1,k2,k3,if_true,if_false] at he ⊢ <;> (by_cases z1 : b - S = 0 <;> by_cases z2 : c - S = 0 <;> by_cases z3 : b = 0 <;> by_cases z4 : c = 0 <;> simp [z1,z2,z3,z4] at he ⊢ <;> omega)
theorem spS_neg {S b : Nat} (h0 : 0 < S) (hb : b < 2 * S) : ((spS S b : Int) == (1 : Int)) = decide (S < b) := by
 unfold spS
 rcases div_two h0 hb with ⟨h1,h2,h3⟩ | ⟨h1,h2,h3⟩
 ·rw [h2,ite_self,decide_eq_false (by omega)]; rfl
 ·rw [h2,h3]
  by_cases h4 : b - S = 0
  ·rw [if_pos h4,decide_eq_false (by omega)]; rfl
  ·rw [if_neg h4,decide_eq_true (by omega)]; rfl
theorem Up_T {E F S I b : Nat} (h : Fm E F S I) (hb : b < 2 * S) (hn : b % S ≤ I) (he : b ≠ I) : Tel 10 #[.agg #[.int .i64 E,.int .i64 F],.int .u64 (b : Int)] (.tuple #[.int .u64 (upN S b : Int),.int .i64 0]) := by
 intro W
 obtain ⟨c,hc,HC⟩ := class_T h hb hn
 have hlt := h.lt
 have h63 := h.i63
 have hI2 : infS S I false < 2 * S := by simp only [infS,Bool.false_eq_true,if_false]; omega
 have hpI : plc S (infS S I false) = (I : Int) := by simp only [infS,Bool.false_eq_true,if_false,plc]; rw [if_pos hlt]
 have hbd := plc_bd h hb hn
 refine Up_is E F b _ _ (fun W => beside_up E F b (fits_T h hb) c hc HC _ (inf_T h false) _ _ (spot_T h hb) _ _ (spot_T h hI2) (sp_ne h.pos hb hI2 ?_) (plc S b) (upN S b : Int) (by omega) (by omega) _ rfl (place_T h hb) ?_ W) W
 ·rw [hpI]
  unfold plc
  rcases div_two h.pos hb with ⟨h1,h2,h3⟩ | ⟨h1,h2,h3⟩
  ·rw [if_pos h1]; omega
  ·rw [if_neg h1]; have := h.six; omega
 ·intro W
  rw [spS_neg h.pos hb]
  unfold plc upN
  rcases div_two h.pos hb with ⟨h1,h2,h3⟩ | ⟨h1,h2,h3⟩
  ·rw [if_pos h1,if_pos h1]
   exact at_0 E F (b + 1) (by omega) _ (fun e => by omega) W
  ·rw [if_neg h1,if_neg h1]
   by_cases h0 : b = S
   ·rw [if_pos h0,show ((S : Int) - (b : Int) + 1) = ((1 : Nat) : Int) from by omega]
    exact at_0 E F 1 (by decide) _ (fun e => by omega) W
   ·rw [if_neg h0,show ((S : Int) - (b : Int) + 1) = -((b - S - 1 : Nat) : Int) from by omega]
    exact at_1 E F S (b - S - 1) (b - 1) _ h.fo (hide h.hS) (by omega) (fun _ => decide_eq_true (by omega)) (by omega) W
theorem Up_E {E F S I : Nat} (h : Fm E F S I) : Tel 10 #[.agg #[.int .i64 E,.int .i64 F],.int .u64 (I : Int)] (.tuple #[.int .u64 0,.int .i64 60]) := by
 have hlt := h.lt
 have hb : I < 2 * S := by omega
 have hn : I % S ≤ I := Nat.mod_le _ _
 obtain ⟨c,hc,HC⟩ := class_T h hb hn
 have hi := inf_T h false
 rw [show infS S I false = I from rfl] at hi
 exact fun W => Up_is E F I _ _ (fun W => beside_end E F I false (fits_T h hb) c hc HC _ hi _ _ (spot_T h hb) (spot_T h hb) W) W
theorem Steps_T {E F S I a b : Nat} (h : Fm E F S I) (ha : a < 2 * S) (hb : b < 2 * S) (hna : a % S ≤ I) (hnb : b % S ≤ I) : Tel 22 #[.agg #[.int .i64 E,.int .i64 F],.int .u64 (a : Int),.int .u64 (b : Int)] (.tuple #[.bool (decide (plc S b < plc S a)),.int .u64 ((plc S a - plc S b).natAbs : Int),.int .i64 0]) := by
 intro W
 obtain ⟨c1,hc1,HC⟩ := class_T h ha hna
 obtain ⟨c2,hc2,HD⟩ := class_T h hb hnb
 have h63 := h.i63
 have hA := plc_bd h ha hna
 have hB := plc_bd h hb hnb
 by_cases hlt : plc S b < plc S a
 ·rw [decide_eq_true hlt]
  exact Steps_down E F a b c1 hc1 c2 hc2 (fits_T h ha) (fits_T h hb) HC HD _ _ _ _ _ _ (spot_T h ha) (spot_T h hb) (place_T h ha) (place_T h hb) hlt (by omega) (by omega) (by omega) (by omega) _ (by omega) W
 ·rw [decide_eq_false hlt]
  exact Steps_up E F a b c1 hc1 c2 hc2 (fits_T h ha) (fits_T h hb) HC HD _ _ _ _ _ _ (spot_T h ha) (spot_T h hb) (place_T h ha) (place_T h hb) hlt (by omega) (by omega) (by omega) (by omega) _ (by omega) W
theorem Cmp_T {E F S I a b : Nat} (h : Fm E F S I) (ha : a < 2 * S) (hb : b < 2 * S) (hna : a % S ≤ I) (hnb : b % S ≤ I) : Tel 18 #[.agg #[.int .i64 E,.int .i64 F],.int .u64 (a : Int),.int .u64 (b : Int)] (.tuple #[.int .i64 (cm3 (plc S a) (plc S b)),.bool true,.int .i64 0]) := by
 intro W
 obtain ⟨c1,hc1,HC⟩ := class_T h ha hna
 obtain ⟨c2,hc2,HD⟩ := class_T h hb hnb
 unfold cm3
 by_cases h1 : plc S a < plc S b
 ·rw [if_pos h1]
  exact Cmp_ne W E F a b _ _ _ _ _ _ true c1 c2 hc1 hc2 (fits_T h ha) (fits_T h hb) HC HD (spot_T h ha) (spot_T h hb) (place_T h ha) (place_T h hb) (sp_ne h.pos ha hb (by omega)) (decide_eq_true h1)
 ·rw [if_neg h1]
  by_cases h2 : plc S b < plc S a
  ·rw [if_pos h2]
   exact Cmp_ne W E F a b _ _ _ _ _ _ false c1 c2 hc1 hc2 (fits_T h ha) (fits_T h hb) HC HD (spot_T h ha) (spot_T h hb) (place_T h ha) (place_T h hb) (sp_ne h.pos ha hb (by omega)) (decide_eq_false h1)
  ·rw [if_neg h2]
   exact Cmp_eq W E F a b _ _ _ _ c1 c2 hc1 hc2 (fits_T h ha) (fits_T h hb) HC HD (spot_T h ha) (spot_T h hb) (sp_eq h.pos ha hb (by omega))
theorem Order_T {E F S I a b : Nat} (h : Fm E F S I) (ha : a < 2 * S) (hb : b < 2 * S) : Tel 20 #[.agg #[.int .i64 E,.int .i64 F],.int .u64 (a : Int),.int .u64 (b : Int)] (.tuple #[.int .i64 (cm3 (rwN S a) (rwN S b)),.int .i64 0]) :=
 fun W => Order_ok E F a b (fits_T h ha) (fits_T h hb) _ _ (row_T h ha) (row_T h hb) W
end Go.Proofs.YtkebhccbhoamjaaGreatDoor
