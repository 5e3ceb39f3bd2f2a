/- Of what RFieldRow stands on: RCmpA. -/
import Derived.Test.YtaiphahgjjjpbaaPaw
namespace Go.Proofs.Ytaiphahgjjjpbaa
open Go.RowKit
set_option maxHeartbeats 1000000 in
theorem sign_true (w : World) : Calls Try.prog 29 #[.bool true] w fun en w' => en = .returned (.int .i64 1) ∧ Below w.heap.size w w' := by
 go_enter Try.func29,Try.ntmps29
 go_wp2
 go_ret
 exact ⟨rfl,gr_refl _⟩
set_option maxHeartbeats 1000000 in
theorem shape_any (s : Bool) (a : Option Addr) (n c : Nat) (a' : Option Addr) (n' c' : Nat) (w : World) :
  Calls Try.prog 49 #[.agg #[.bool s,.slice a n c,.slice a' n' c']] w fun en w' => en = .returned (.agg #[.bool s,.int .i64 (n : Nat),.int .i64 (n' : Nat)]) ∧ Below w.heap.size w w' := by
 go_enter Try.func49,Try.ntmps49
 go_wp2
 exact bodyPost_ret (v := .agg #[.bool s,.int .i64 (n : Nat),.int .i64 (n' : Nat)]) (by simp [results,Try.results49,go_sem]) rfl ⟨rfl,gr_trans (gr_alloc _ _) (gr_alloc _ _)⟩
structure Sam1S where
 (b0 b1 b2 b3 b4 b5 b6 b7 b8 b9 b10 b11 b12 b13 b14 b15 b16 b17 b18 b19 b20 b21 b22 b23 b24 b25 b26 b27 b28 b29 : Bool)
 (v0 v1 v2 v3 v4 v5 v6 v7 v17 v18 v28 v29 : Value)
 bs9 : List En
 os9 : Os
structure Sam1R (w : World) (a1 a2 a3 a4 : Option Addr) (n1 n2 n3 n4 c1 c2 c3 c4 : Nat) (S9 : Nat) (b0 b1 b2 b3 b4 b5 b6 b7 b8 b9 b10 b11 b12 b13 b14 b15 b16 b17 b18 b19 b20 b21 b22 b23 b24 b25 b26 b27 b28 b29 : Bool) (v0 v1 v2 v3 v4 v5 v6 v7 v17 v18 v28 v29 : Value)  (bs9 : List En) (os9 : Os) (w' : World) : Prop where
 hc : Rc w S9 [⟨w.heap.size,#[.bool false,.slice a1 n1 c1,.slice a2 n2 c2,.bool true,.slice a3 n3 c3,.slice a4 n4 c4],53⟩] [] [] none bs9 os9 w'
 f0 : b0 = true → v0 = .pointer (some ⟨w.heap.size,0,none⟩)
 f1 : b1 = true → v1 = .agg #[.bool false,.slice a1 n1 c1,.slice a2 n2 c2]
 f2 : b2 = true → v2 = .agg #[.bool false,.int .i64 (n1 : Nat),.int .i64 (n2 : Nat)]
 f3 : b3 = true → v3 = .pointer (some ⟨w.heap.size,3,none⟩)
 f4 : b4 = true → v4 = .agg #[.bool true,.slice a3 n3 c3,.slice a4 n4 c4]
 f5 : b5 = true → v5 = .agg #[.bool true,.int .i64 (n3 : Nat),.int .i64 (n4 : Nat)]
 f6 : b6 = true → v6 = .bool false
 f7 : b7 = true → v7 = .bool false
 f17 : b17 = true → v17 = .bool false
 f18 : b18 = true → v18 = .bool false
 f28 : b28 = true → v28 = .bool false
 f29 : b29 = true → v29 = .bool false
def Sam1I (w : World) (a1 a2 a3 a4 : Option Addr) (n1 n2 n3 n4 c1 c2 c3 c4 : Nat) (S9 : Nat) (l : Array Bool) (act : Act) (w' : World) : Sam1S → Prop
 | ⟨b0,b1,b2,b3,b4,b5,b6,b7,b8,b9,b10,b11,b12,b13,b14,b15,b16,b17,b18,b19,b20,b21,b22,b23,b24,b25,b26,b27,b28,b29,v0,v1,v2,v3,v4,v5,v6,v7,v17,v18,v28,v29,bs9,os9⟩ => l = #[b0,b1,b2,b3,b4,b5,b6,b7,b8,b9,b10,b11,b12,b13,b14,b15,b16,b17,b18,b19,b20,b21,b22,b23,b24,b25,b26,b27,b28,b29] ∧ act = { tmps := #[.agg #[.bool false,.slice a1 n1 c1,.slice a2 n2 c2,.bool true,.slice a3 n3 c3,.slice a4 n4 c4],.pointer (some ⟨w.heap.size,0,none⟩),v29,v0,v1,v2,v3,v4,v5,v6,v7,undef,undef,undef,undef,undef,undef,undef,undef,undef,v17,v18,undef,undef,undef,undef,undef,undef,undef,undef,undef,v28],defers := [] } ∧ Sam1R w a1 a2 a3 a4 n1 n2 n3 n4 c1 c2 c3 c4 S9 b0 b1 b2 b3 b4 b5 b6 b7 b8 b9 b10 b11 b12 b13 b14 b15 b16 b17 b18 b19 b20 b21 b22 b23 b24 b25 b26 b27 b28 b29 v0 v1 v2 v3 v4 v5 v6 v7 v17 v18 v28 v29 bs9 os9 w'
set_option maxRecDepth 20000 in
set_option maxHeartbeats 4000000 in
theorem bothSame_apart (a1 a2 a3 a4 : Option Addr) (n1 n2 n3 n4 c1 c2 c3 c4 : Nat) (w : World) :
  Calls Try.prog 28 #[.agg #[.bool false,.slice a1 n1 c1,.slice a2 n2 c2,.bool true,.slice a3 n3 c3,.slice a4 n4 c4]] w fun en w' => en = .returned (.bool false) ∧ Below w.heap.size w w' := by
 have hS := Rs.begin w
 replace hS := hS.alloc #[.bool false,.slice a1 n1 c1,.slice a2 n2 c2,.bool true,.slice a3 n3 c3,.slice a4 n4 c4] 53
 try simp only [World.size_alloc] at hS
 go_enter Try.func28,Try.ntmps28
 go_wp2_with fail
 refine wp_region_any (by kernel_rfl) ?_
 change wpAny _ _ _ _ _ _ _ (World.drew _)
 have hS9 := hS.drew
 have hsW9 : (World.drew (w.alloc (.cells #[.bool false,.slice a1 n1 c1,.slice a2 n2 c2,.bool true,.slice a3 n3 c3,.slice a4 n4 c4] 53))).heap.size = w.heap.size + 1 := by first | rfl | simp
 generalize World.drew (w.alloc (.cells #[.bool false,.slice a1 n1 c1,.slice a2 n2 c2,.bool true,.slice a3 n3 c3,.slice a4 n4 c4] 53)) = Wd at hS9 hsW9 ⊢
 obtain ⟨S9,hS9z⟩ : ∃ x,x = Wd.heap.size := ⟨_,rfl⟩
 have hC9 := Rc.start (bs := [⟨w.heap.size,#[.bool false,.slice a1 n1 c1,.slice a2 n2 c2,.bool true,.slice a3 n3 c3,.slice a4 n4 c4],53⟩]) hS9 (by simp)
 rw [← hS9z] at hC9
 refine wpAny_inv (fun l act w' => ∃ σ,Sam1I w a1 a2 a3 a4 n1 n2 n3 n4 c1 c2 c3 c4 S9 l act w' σ) ?_ ?_ _ _ _ _ ?_ ?_
 ·intro l act w' i9 hI9 hi9 hl9
  have hin9 : i9 < 30 := by
   by_cases h : i9 < 30
   ·exact h
   ·obtain ⟨⟨⟩,rfl,_⟩ := hI9
    rw [Array.getElem?_eq_none (by simp; omega)] at hl9; cases hl9
  have hcase : i9 = 0 ∨ i9 = 1 ∨ i9 = 2 ∨ i9 = 3 ∨ i9 = 4 ∨ i9 = 5 ∨ i9 = 6 ∨ i9 = 7 ∨ i9 = 8 ∨ i9 = 9 ∨ i9 = 10 ∨ i9 = 11 ∨ i9 = 12 ∨ i9 = 13 ∨ i9 = 14 ∨ i9 = 15 ∨ i9 = 16 ∨ i9 = 17 ∨ i9 = 18 ∨ i9 = 19 ∨ i9 = 20 ∨ i9 = 21 ∨ i9 = 22 ∨ i9 = 23 ∨ i9 = 24 ∨ i9 = 25 ∨ i9 = 26 ∨ i9 = 27 ∨ i9 = 28 ∨ i9 = 29 := by omega
  clear hin9
  rcases hcase with rfl | rfl | rfl | rfl | rfl | rfl | rfl | rfl | rfl | rfl | rfl | rfl | rfl | rfl | rfl | rfl | rfl | rfl | rfl | rfl | rfl | rfl | rfl | rfl | rfl | rfl | rfl | rfl | rfl | rfl
  ·obtain ⟨⟨b0,b1,b2,b3,b4,b5,b6,b7,b8,b9,b10,b11,b12,b13,b14,b15,b16,b17,b18,b19,b20,b21,b22,b23,b24,b25,b26,b27,b28,b29,v0,v1,v2,v3,v4,v5,v6,v7,v17,v18,v28,v29,bs9,os9⟩,rfl,rfl,hR⟩ := hI9
   have hc := hR.hc
   obtain rfl : b0 = false := by simpa using hl9
   clear hl9
   clear hi9
   replace hc := hR.hc
   refine wpOp_step rfl (fun K hK => ?_)
   go_simp
   exact hK _ _ ⟨⟨_,_,_,_,_,_,_,_,_,_,_,_,_,_,_,_,_,_,_,_,_,_,_,_,_,_,_,_,_,_,_,_,_,_,_,_,_,_,_,_,_,_,_,_⟩,rfl,rfl,{ hR with hc := hc,f0 := (fun _ => rfl) }⟩
  ·obtain ⟨⟨b0,b1,b2,b3,b4,b5,b6,b7,b8,b9,b10,b11,b12,b13,b14,b15,b16,b17,b18,b19,b20,b21,b22,b23,b24,b25,b26,b27,b28,b29,v0,v1,v2,v3,v4,v5,v6,v7,v17,v18,v28,v29,bs9,os9⟩,rfl,rfl,hR⟩ := hI9
   have hc := hR.hc
   obtain rfl : b1 = false := by simpa using hl9
   clear hl9
   obtain ⟨o9,ho9,hd9⟩ := (mem_ready.1 hi9).2
   cases ho9
   have e0 : b0 = true := hd9 ⟨0,.data⟩ (by simp) rfl
   clear hd9
   subst e0
   clear hi9
   have h9 := hR.f0 rfl
   subst h9
   replace hc := hR.hc
   have c9_0 := hc.st.cellAt (hc.old ⟨w.heap.size,#[.bool false,.slice a1 n1 c1,.slice a2 n2 c2,.bool true,.slice a3 n3 c3,.slice a4 n4 c4],53⟩ (by simp)).1 0 (.bool false) rfl
   have c9_1 := hc.st.cellAt (hc.old ⟨w.heap.size,#[.bool false,.slice a1 n1 c1,.slice a2 n2 c2,.bool true,.slice a3 n3 c3,.slice a4 n4 c4],53⟩ (by simp)).1 1 (.slice a1 n1 c1) rfl
   have c9_2 := hc.st.cellAt (hc.old ⟨w.heap.size,#[.bool false,.slice a1 n1 c1,.slice a2 n2 c2,.bool true,.slice a3 n3 c3,.slice a4 n4 c4],53⟩ (by simp)).1 2 (.slice a2 n2 c2) rfl
   simp only [] at c9_0 c9_1 c9_2
   refine wpOp_step rfl (fun K hK => ?_)
   go_simp
   exact hK _ _ ⟨⟨_,_,_,_,_,_,_,_,_,_,_,_,_,_,_,_,_,_,_,_,_,_,_,_,_,_,_,_,_,_,_,_,_,_,_,_,_,_,_,_,_,_,_,_⟩,rfl,rfl,{ hR with hc := hc,f1 := (fun _ => rfl) }⟩
  ·obtain ⟨⟨b0,b1,b2,b3,b4,b5,b6,b7,b8,b9,b10,b11,b12,b13,b14,b15,b16,b17,b18,b19,b20,b21,b22,b23,b24,b25,b26,b27,b28,b29,v0,v1,v2,v3,v4,v5,v6,v7,v17,v18,v28,v29,bs9,os9⟩,rfl,rfl,hR⟩ := hI9
   have hc := hR.hc
   obtain rfl : b2 = false := by simpa using hl9
   clear hl9
   obtain ⟨o9,ho9,hd9⟩ := (mem_ready.1 hi9).2
   cases ho9
   have e1 : b1 = true := hd9 ⟨1,.data⟩ (by simp) rfl
   clear hd9
   subst e1
   clear hi9
   have h9 := hR.f1 rfl
   subst h9
   replace hc := hR.hc
   have HR := hide hR
   clear hR
   refine wpOp_step rfl (fun K hK => ?_)
   go_simp
   go_wp2_with fail
   refine (shape_any false a1 n1 c1 a2 n2 c2 _).mono ?_
   rintro en w9 ⟨rfl,hb9⟩
   have hR := unhide HR
   exact hK _ _ ⟨⟨_,_,_,_,_,_,_,_,_,_,_,_,_,_,_,_,_,_,_,_,_,_,_,_,_,_,_,_,_,_,_,_,_,_,_,_,_,_,_,_,_,_,_,_⟩,rfl,rfl,{ hR with hc := (hc.call (hc.st.kept hb9) hb9.size (fun y hy => hy)),f2 := (fun _ => rfl) }⟩
  ·obtain ⟨⟨b0,b1,b2,b3,b4,b5,b6,b7,b8,b9,b10,b11,b12,b13,b14,b15,b16,b17,b18,b19,b20,b21,b22,b23,b24,b25,b26,b27,b28,b29,v0,v1,v2,v3,v4,v5,v6,v7,v17,v18,v28,v29,bs9,os9⟩,rfl,rfl,hR⟩ := hI9
   have hc := hR.hc
   obtain rfl : b3 = false := by simpa using hl9
   clear hl9
   clear hi9
   replace hc := hR.hc
   refine wpOp_step rfl (fun K hK => ?_)
   go_simp
   exact hK _ _ ⟨⟨_,_,_,_,_,_,_,_,_,_,_,_,_,_,_,_,_,_,_,_,_,_,_,_,_,_,_,_,_,_,_,_,_,_,_,_,_,_,_,_,_,_,_,_⟩,rfl,rfl,{ hR with hc := hc,f3 := (fun _ => rfl) }⟩
  ·obtain ⟨⟨b0,b1,b2,b3,b4,b5,b6,b7,b8,b9,b10,b11,b12,b13,b14,b15,b16,b17,b18,b19,b20,b21,b22,b23,b24,b25,b26,b27,b28,b29,v0,v1,v2,v3,v4,v5,v6,v7,v17,v18,v28,v29,bs9,os9⟩,rfl,rfl,hR⟩ := hI9
   have hc := hR.hc
   obtain rfl : b4 = false := by simpa using hl9
   clear hl9
   obtain ⟨o9,ho9,hd9⟩ := (mem_ready.1 hi9).2
   cases ho9
   have e3 : b3 = true := hd9 ⟨3,.data⟩ (by simp) rfl
   clear hd9
   subst e3
   clear hi9
   have h9 := hR.f3 rfl
   subst h9
   replace hc := hR.hc
   have c9_0 := hc.st.cellAt (hc.old ⟨w.heap.size,#[.bool false,.slice a1 n1 c1,.slice a2 n2 c2,.bool true,.slice a3 n3 c3,.slice a4 n4 c4],53⟩ (by simp)).1 3 (.bool true) rfl
   have c9_1 := hc.st.cellAt (hc.old ⟨w.heap.size,#[.bool false,.slice a1 n1 c1,.slice a2 n2 c2,.bool true,.slice a3 n3 c3,.slice a4 n4 c4],53⟩ (by simp)).1 4 (.slice a3 n3 c3) rfl
   have c9_2 := hc.st.cellAt (hc.old ⟨w.heap.size,#[.bool false,.slice a1 n1 c1,.slice a2 n2 c2,.bool true,.slice a3 n3 c3,.slice a4 n4 c4],53⟩ (by simp)).1 5 (.slice a4 n4 c4) rfl
   simp only [] at c9_0 c9_1 c9_2
   refine wpOp_step rfl (fun K hK => ?_)
   go_simp
   exact hK _ _ ⟨⟨_,_,_,_,_,_,_,_,_,_,_,_,_,_,_,_,_,_,_,_,_,_,_,_,_,_,_,_,_,_,_,_,_,_,_,_,_,_,_,_,_,_,_,_⟩,rfl,rfl,{ hR with hc := hc,f4 := (fun _ => rfl) }⟩
  ·obtain ⟨⟨b0,b1,b2,b3,b4,b5,b6,b7,b8,b9,b10,b11,b12,b13,b14,b15,b16,b17,b18,b19,b20,b21,b22,b23,b24,b25,b26,b27,b28,b29,v0,v1,v2,v3,v4,v5,v6,v7,v17,v18,v28,v29,bs9,os9⟩,rfl,rfl,hR⟩ := hI9
   have hc := hR.hc
   obtain rfl : b5 = false := by simpa using hl9
   clear hl9
   obtain ⟨o9,ho9,hd9⟩ := (mem_ready.1 hi9).2
   cases ho9
   have e4 : b4 = true := hd9 ⟨4,.data⟩ (by simp) rfl
   clear hd9
   subst e4
   clear hi9
   have h9 := hR.f4 rfl
   subst h9
   replace hc := hR.hc
   have HR := hide hR
   clear hR
   refine wpOp_step rfl (fun K hK => ?_)
   go_simp
   go_wp2_with fail
   refine (shape_any true a3 n3 c3 a4 n4 c4 _).mono ?_
   rintro en w9 ⟨rfl,hb9⟩
   have hR := unhide HR
   exact hK _ _ ⟨⟨_,_,_,_,_,_,_,_,_,_,_,_,_,_,_,_,_,_,_,_,_,_,_,_,_,_,_,_,_,_,_,_,_,_,_,_,_,_,_,_,_,_,_,_⟩,rfl,rfl,{ hR with hc := (hc.call (hc.st.kept hb9) hb9.size (fun y hy => hy)),f5 := (fun _ => rfl) }⟩
  ·obtain ⟨⟨b0,b1,b2,b3,b4,b5,b6,b7,b8,b9,b10,b11,b12,b13,b14,b15,b16,b17,b18,b19,b20,b21,b22,b23,b24,b25,b26,b27,b28,b29,v0,v1,v2,v3,v4,v5,v6,v7,v17,v18,v28,v29,bs9,os9⟩,rfl,rfl,hR⟩ := hI9
   have hc := hR.hc
   obtain rfl : b6 = false := by simpa using hl9
   clear hl9
   obtain ⟨o9,ho9,hd9⟩ := (mem_ready.1 hi9).2
   cases ho9
   have e2 : b2 = true := hd9 ⟨2,.data⟩ (by simp) rfl
   have e5 : b5 = true := hd9 ⟨5,.data⟩ (by simp) rfl
   clear hd9
   subst e2 e5
   clear hi9
   have h9 := hR.f2 rfl
   subst h9
   have h9 := hR.f5 rfl
   subst h9
   replace hc := hR.hc
   refine wpOp_step rfl (fun K hK => ?_)
   go_simp
   exact hK _ _ ⟨⟨_,_,_,_,_,_,_,_,_,_,_,_,_,_,_,_,_,_,_,_,_,_,_,_,_,_,_,_,_,_,_,_,_,_,_,_,_,_,_,_,_,_,_,_⟩,rfl,rfl,{ hR with hc := hc,f6 := (fun _ => by first | rfl | simp) }⟩
  ·obtain ⟨⟨b0,b1,b2,b3,b4,b5,b6,b7,b8,b9,b10,b11,b12,b13,b14,b15,b16,b17,b18,b19,b20,b21,b22,b23,b24,b25,b26,b27,b28,b29,v0,v1,v2,v3,v4,v5,v6,v7,v17,v18,v28,v29,bs9,os9⟩,rfl,rfl,hR⟩ := hI9
   have hc := hR.hc
   obtain rfl : b7 = false := by simpa using hl9
   clear hl9
   obtain ⟨o9,ho9,hd9⟩ := (mem_ready.1 hi9).2
   cases ho9
   have e6 : b6 = true := hd9 ⟨6,.data⟩ (by simp) rfl
   clear hd9
   subst e6
   clear hi9
   have h9 := hR.f6 rfl
   subst h9
   replace hc := hR.hc
   refine wpOp_step rfl (fun K hK => ?_)
   go_simp
   exact hK _ _ ⟨⟨_,_,_,_,_,_,_,_,_,_,_,_,_,_,_,_,_,_,_,_,_,_,_,_,_,_,_,_,_,_,_,_,_,_,_,_,_,_,_,_,_,_,_,_⟩,rfl,rfl,{ hR with hc := hc,f7 := (fun _ => rfl) }⟩
  ·obtain ⟨⟨b0,b1,b2,b3,b4,b5,b6,b7,b8,b9,b10,b11,b12,b13,b14,b15,b16,b17,b18,b19,b20,b21,b22,b23,b24,b25,b26,b27,b28,b29,v0,v1,v2,v3,v4,v5,v6,v7,v17,v18,v28,v29,bs9,os9⟩,rfl,rfl,hR⟩ := hI9
   have hc := hR.hc
   obtain rfl : b8 = false := by simpa using hl9
   clear hl9
   obtain ⟨o9,ho9,hd9⟩ := (mem_ready.1 hi9).2
   cases ho9
   have e7 : b7 = true := hd9 ⟨7,.guard⟩ (by simp) rfl
   clear hd9
   subst e7
   clear hi9
   have h9 := hR.f7 rfl
   subst h9
   replace hc := hR.hc
   refine wpOp_step rfl (fun K hK => ?_)
   go_simp
   exact hK _ _ ⟨⟨_,_,_,_,_,_,_,_,_,_,_,_,_,_,_,_,_,_,_,_,_,_,_,_,_,_,_,_,_,_,_,_,_,_,_,_,_,_,_,_,_,_,_,_⟩,rfl,rfl,{ hR with hc := hc }⟩
  ·obtain ⟨⟨b0,b1,b2,b3,b4,b5,b6,b7,b8,b9,b10,b11,b12,b13,b14,b15,b16,b17,b18,b19,b20,b21,b22,b23,b24,b25,b26,b27,b28,b29,v0,v1,v2,v3,v4,v5,v6,v7,v17,v18,v28,v29,bs9,os9⟩,rfl,rfl,hR⟩ := hI9
   have hc := hR.hc
   obtain rfl : b9 = false := by simpa using hl9
   clear hl9
   obtain ⟨o9,ho9,hd9⟩ := (mem_ready.1 hi9).2
   cases ho9
   have e7 : b7 = true := hd9 ⟨7,.guard⟩ (by simp) rfl
   clear hd9
   subst e7
   clear hi9
   have h9 := hR.f7 rfl
   subst h9
   replace hc := hR.hc
   refine wpOp_step rfl (fun K hK => ?_)
   go_simp
   exact hK _ _ ⟨⟨_,_,_,_,_,_,_,_,_,_,_,_,_,_,_,_,_,_,_,_,_,_,_,_,_,_,_,_,_,_,_,_,_,_,_,_,_,_,_,_,_,_,_,_⟩,rfl,rfl,{ hR with hc := hc }⟩
  ·obtain ⟨⟨b0,b1,b2,b3,b4,b5,b6,b7,b8,b9,b10,b11,b12,b13,b14,b15,b16,b17,b18,b19,b20,b21,b22,b23,b24,b25,b26,b27,b28,b29,v0,v1,v2,v3,v4,v5,v6,v7,v17,v18,v28,v29,bs9,os9⟩,rfl,rfl,hR⟩ := hI9
   have hc := hR.hc
   obtain rfl : b10 = false := by simpa using hl9
   clear hl9
   obtain ⟨o9,ho9,hd9⟩ := (mem_ready.1 hi9).2
   cases ho9
   have e7 : b7 = true := hd9 ⟨7,.guard⟩ (by simp) rfl
   clear hd9
   subst e7
   clear hi9
   have h9 := hR.f7 rfl
   subst h9
   replace hc := hR.hc
   refine wpOp_step rfl (fun K hK => ?_)
   go_simp
   exact hK _ _ ⟨⟨_,_,_,_,_,_,_,_,_,_,_,_,_,_,_,_,_,_,_,_,_,_,_,_,_,_,_,_,_,_,_,_,_,_,_,_,_,_,_,_,_,_,_,_⟩,rfl,rfl,{ hR with hc := hc }⟩
  ·obtain ⟨⟨b0,b1,b2,b3,b4,b5,b6,b7,b8,b9,b10,b11,b12,b13,b14,b15,b16,b17,b18,b19,b20,b21,b22,b23,b24,b25,b26,b27,b28,b29,v0,v1,v2,v3,v4,v5,v6,v7,v17,v18,v28,v29,bs9,os9⟩,rfl,rfl,hR⟩ := hI9
   have hc := hR.hc
   obtain rfl : b11 = false := by simpa using hl9
   clear hl9
   obtain ⟨o9,ho9,hd9⟩ := (mem_ready.1 hi9).2
   cases ho9
   have e7 : b7 = true := hd9 ⟨7,.guard⟩ (by simp) rfl
   clear hd9
   subst e7
   clear hi9
   have h9 := hR.f7 rfl
   subst h9
   replace hc := hR.hc
   refine wpOp_step rfl (fun K hK => ?_)
   go_simp
   exact hK _ _ ⟨⟨_,_,_,_,_,_,_,_,_,_,_,_,_,_,_,_,_,_,_,_,_,_,_,_,_,_,_,_,_,_,_,_,_,_,_,_,_,_,_,_,_,_,_,_⟩,rfl,rfl,{ hR with hc := hc }⟩
  ·obtain ⟨⟨b0,b1,b2,b3,b4,b5,b6,b7,b8,b9,b10,b11,b12,b13,b14,b15,b16,b17,b18,b19,b20,b21,b22,b23,b24,b25,b26,b27,b28,b29,v0,v1,v2,v3,v4,v5,v6,v7,v17,v18,v28,v29,bs9,os9⟩,rfl,rfl,hR⟩ := hI9
   have hc := hR.hc
   obtain rfl : b12 = false := by simpa using hl9
   clear hl9
   obtain ⟨o9,ho9,hd9⟩ := (mem_ready.1 hi9).2
   cases ho9
   have e7 : b7 = true := hd9 ⟨7,.guard⟩ (by simp) rfl
   clear hd9
   subst e7
   clear hi9
   have h9 := hR.f7 rfl
   subst h9
   replace hc := hR.hc
   refine wpOp_step rfl (fun K hK => ?_)
   go_simp
   exact hK _ _ ⟨⟨_,_,_,_,_,_,_,_,_,_,_,_,_,_,_,_,_,_,_,_,_,_,_,_,_,_,_,_,_,_,_,_,_,_,_,_,_,_,_,_,_,_,_,_⟩,rfl,rfl,{ hR with hc := hc }⟩
  ·obtain ⟨⟨b0,b1,b2,b3,b4,b5,b6,b7,b8,b9,b10,b11,b12,b13,b14,b15,b16,b17,b18,b19,b20,b21,b22,b23,b24,b25,b26,b27,b28,b29,v0,v1,v2,v3,v4,v5,v6,v7,v17,v18,v28,v29,bs9,os9⟩,rfl,rfl,hR⟩ := hI9
   have hc := hR.hc
   obtain rfl : b13 = false := by simpa using hl9
   clear hl9
   obtain ⟨o9,ho9,hd9⟩ := (mem_ready.1 hi9).2
   cases ho9
   have e7 : b7 = true := hd9 ⟨7,.guard⟩ (by simp) rfl
   clear hd9
   subst e7
   clear hi9
   have h9 := hR.f7 rfl
   subst h9
   replace hc := hR.hc
   refine wpOp_step rfl (fun K hK => ?_)
   go_simp
   exact hK _ _ ⟨⟨_,_,_,_,_,_,_,_,_,_,_,_,_,_,_,_,_,_,_,_,_,_,_,_,_,_,_,_,_,_,_,_,_,_,_,_,_,_,_,_,_,_,_,_⟩,rfl,rfl,{ hR with hc := hc }⟩
  ·obtain ⟨⟨b0,b1,b2,b3,b4,b5,b6,b7,b8,b9,b10,b11,b12,b13,b14,b15,b16,b17,b18,b19,b20,b21,b22,b23,b24,b25,b26,b27,b28,b29,v0,v1,v2,v3,v4,v5,v6,v7,v17,v18,v28,v29,bs9,os9⟩,rfl,rfl,hR⟩ := hI9
   have hc := hR.hc
   obtain rfl : b14 = false := by simpa using hl9
   clear hl9
   obtain ⟨o9,ho9,hd9⟩ := (mem_ready.1 hi9).2
   cases ho9
   have e7 : b7 = true := hd9 ⟨7,.guard⟩ (by simp) rfl
   clear hd9
   subst e7
   clear hi9
   have h9 := hR.f7 rfl
   subst h9
   replace hc := hR.hc
   refine wpOp_step rfl (fun K hK => ?_)
   go_simp
   exact hK _ _ ⟨⟨_,_,_,_,_,_,_,_,_,_,_,_,_,_,_,_,_,_,_,_,_,_,_,_,_,_,_,_,_,_,_,_,_,_,_,_,_,_,_,_,_,_,_,_⟩,rfl,rfl,{ hR with hc := hc }⟩
  ·obtain ⟨⟨b0,b1,b2,b3,b4,b5,b6,b7,b8,b9,b10,b11,b12,b13,b14,b15,b16,b17,b18,b19,b20,b21,b22,b23,b24,b25,b26,b27,b28,b29,v0,v1,v2,v3,v4,v5,v6,v7,v17,v18,v28,v29,bs9,os9⟩,rfl,rfl,hR⟩ := hI9
   have hc := hR.hc
   obtain rfl : b15 = false := by simpa using hl9
   clear hl9
   obtain ⟨o9,ho9,hd9⟩ := (mem_ready.1 hi9).2
   cases ho9
   have e7 : b7 = true := hd9 ⟨7,.guard⟩ (by simp) rfl
   clear hd9
   subst e7
   clear hi9
   have h9 := hR.f7 rfl
   subst h9
   replace hc := hR.hc
   refine wpOp_step rfl (fun K hK => ?_)
   go_simp
   exact hK _ _ ⟨⟨_,_,_,_,_,_,_,_,_,_,_,_,_,_,_,_,_,_,_,_,_,_,_,_,_,_,_,_,_,_,_,_,_,_,_,_,_,_,_,_,_,_,_,_⟩,rfl,rfl,{ hR with hc := hc }⟩
  ·obtain ⟨⟨b0,b1,b2,b3,b4,b5,b6,b7,b8,b9,b10,b11,b12,b13,b14,b15,b16,b17,b18,b19,b20,b21,b22,b23,b24,b25,b26,b27,b28,b29,v0,v1,v2,v3,v4,v5,v6,v7,v17,v18,v28,v29,bs9,os9⟩,rfl,rfl,hR⟩ := hI9
   have hc := hR.hc
   obtain rfl : b16 = false := by simpa using hl9
   clear hl9
   obtain ⟨o9,ho9,hd9⟩ := (mem_ready.1 hi9).2
   cases ho9
   have e7 : b7 = true := hd9 ⟨7,.chain⟩ (by simp) rfl
   clear hd9
   subst e7
   clear hi9
   have h9 := hR.f7 rfl
   subst h9
   replace hc := hR.hc
   refine wpOp_step rfl (fun K hK => ?_)
   go_simp
   exact hK _ _ ⟨⟨_,_,_,_,_,_,_,_,_,_,_,_,_,_,_,_,_,_,_,_,_,_,_,_,_,_,_,_,_,_,_,_,_,_,_,_,_,_,_,_,_,_,_,_⟩,rfl,rfl,{ hR with hc := hc }⟩
  ·obtain ⟨⟨b0,b1,b2,b3,b4,b5,b6,b7,b8,b9,b10,b11,b12,b13,b14,b15,b16,b17,b18,b19,b20,b21,b22,b23,b24,b25,b26,b27,b28,b29,v0,v1,v2,v3,v4,v5,v6,v7,v17,v18,v28,v29,bs9,os9⟩,rfl,rfl,hR⟩ := hI9
   have hc := hR.hc
   obtain rfl : b17 = false := by simpa using hl9
   clear hl9
   obtain ⟨o9,ho9,hd9⟩ := (mem_ready.1 hi9).2
   cases ho9
   have e7 : b7 = true := hd9 ⟨7,.data⟩ (by simp) rfl
   clear hd9
   subst e7
   clear hi9
   have h9 := hR.f7 rfl
   subst h9
   replace hc := hR.hc
   refine wpOp_step rfl (fun K hK => ?_)
   go_simp
   exact hK _ _ ⟨⟨_,_,_,_,_,_,_,_,_,_,_,_,_,_,_,_,_,_,_,_,_,_,_,_,_,_,_,_,_,_,_,_,_,_,_,_,_,_,_,_,_,_,_,_⟩,rfl,rfl,{ hR with hc := hc,f17 := (fun _ => by first | rfl | simp) }⟩
  ·obtain ⟨⟨b0,b1,b2,b3,b4,b5,b6,b7,b8,b9,b10,b11,b12,b13,b14,b15,b16,b17,b18,b19,b20,b21,b22,b23,b24,b25,b26,b27,b28,b29,v0,v1,v2,v3,v4,v5,v6,v7,v17,v18,v28,v29,bs9,os9⟩,rfl,rfl,hR⟩ := hI9
   have hc := hR.hc
   obtain rfl : b18 = false := by simpa using hl9
   clear hl9
   obtain ⟨o9,ho9,hd9⟩ := (mem_ready.1 hi9).2
   cases ho9
   have e17 : b17 = true := hd9 ⟨17,.data⟩ (by simp) rfl
   clear hd9
   subst e17
   clear hi9
   have h9 := hR.f17 rfl
   subst h9
   replace hc := hR.hc
   refine wpOp_step rfl (fun K hK => ?_)
   go_simp
   exact hK _ _ ⟨⟨_,_,_,_,_,_,_,_,_,_,_,_,_,_,_,_,_,_,_,_,_,_,_,_,_,_,_,_,_,_,_,_,_,_,_,_,_,_,_,_,_,_,_,_⟩,rfl,rfl,{ hR with hc := hc,f18 := (fun _ => rfl) }⟩
  ·obtain ⟨⟨b0,b1,b2,b3,b4,b5,b6,b7,b8,b9,b10,b11,b12,b13,b14,b15,b16,b17,b18,b19,b20,b21,b22,b23,b24,b25,b26,b27,b28,b29,v0,v1,v2,v3,v4,v5,v6,v7,v17,v18,v28,v29,bs9,os9⟩,rfl,rfl,hR⟩ := hI9
   have hc := hR.hc
   obtain rfl : b19 = false := by simpa using hl9
   clear hl9
   obtain ⟨o9,ho9,hd9⟩ := (mem_ready.1 hi9).2
   cases ho9
   have e18 : b18 = true := hd9 ⟨18,.guard⟩ (by simp) rfl
   clear hd9
   subst e18
   clear hi9
   have h9 := hR.f18 rfl
   subst h9
   replace hc := hR.hc
   refine wpOp_step rfl (fun K hK => ?_)
   go_simp
   exact hK _ _ ⟨⟨_,_,_,_,_,_,_,_,_,_,_,_,_,_,_,_,_,_,_,_,_,_,_,_,_,_,_,_,_,_,_,_,_,_,_,_,_,_,_,_,_,_,_,_⟩,rfl,rfl,{ hR with hc := hc }⟩
  ·obtain ⟨⟨b0,b1,b2,b3,b4,b5,b6,b7,b8,b9,b10,b11,b12,b13,b14,b15,b16,b17,b18,b19,b20,b21,b22,b23,b24,b25,b26,b27,b28,b29,v0,v1,v2,v3,v4,v5,v6,v7,v17,v18,v28,v29,bs9,os9⟩,rfl,rfl,hR⟩ := hI9
   have hc := hR.hc
   obtain rfl : b20 = false := by simpa using hl9
   clear hl9
   obtain ⟨o9,ho9,hd9⟩ := (mem_ready.1 hi9).2
   cases ho9
   have e18 : b18 = true := hd9 ⟨18,.guard⟩ (by simp) rfl
   clear hd9
   subst e18
   clear hi9
   have h9 := hR.f18 rfl
   subst h9
   replace hc := hR.hc
   refine wpOp_step rfl (fun K hK => ?_)
   go_simp
   exact hK _ _ ⟨⟨_,_,_,_,_,_,_,_,_,_,_,_,_,_,_,_,_,_,_,_,_,_,_,_,_,_,_,_,_,_,_,_,_,_,_,_,_,_,_,_,_,_,_,_⟩,rfl,rfl,{ hR with hc := hc }⟩
  ·obtain ⟨⟨b0,b1,b2,b3,b4,b5,b6,b7,b8,b9,b10,b11,b12,b13,b14,b15,b16,b17,b18,b19,b20,b21,b22,b23,b24,b25,b26,b27,b28,b29,v0,v1,v2,v3,v4,v5,v6,v7,v17,v18,v28,v29,bs9,os9⟩,rfl,rfl,hR⟩ := hI9
   have hc := hR.hc
   obtain rfl : b21 = false := by simpa using hl9
   clear hl9
   obtain ⟨o9,ho9,hd9⟩ := (mem_ready.1 hi9).2
   cases ho9
   have e18 : b18 = true := hd9 ⟨18,.guard⟩ (by simp) rfl
   clear hd9
   subst e18
   clear hi9
   have h9 := hR.f18 rfl
   subst h9
   replace hc := hR.hc
   refine wpOp_step rfl (fun K hK => ?_)
   go_simp
   exact hK _ _ ⟨⟨_,_,_,_,_,_,_,_,_,_,_,_,_,_,_,_,_,_,_,_,_,_,_,_,_,_,_,_,_,_,_,_,_,_,_,_,_,_,_,_,_,_,_,_⟩,rfl,rfl,{ hR with hc := hc }⟩
  ·obtain ⟨⟨b0,b1,b2,b3,b4,b5,b6,b7,b8,b9,b10,b11,b12,b13,b14,b15,b16,b17,b18,b19,b20,b21,b22,b23,b24,b25,b26,b27,b28,b29,v0,v1,v2,v3,v4,v5,v6,v7,v17,v18,v28,v29,bs9,os9⟩,rfl,rfl,hR⟩ := hI9
   have hc := hR.hc
   obtain rfl : b22 = false := by simpa using hl9
   clear hl9
   obtain ⟨o9,ho9,hd9⟩ := (mem_ready.1 hi9).2
   cases ho9
   have e18 : b18 = true := hd9 ⟨18,.guard⟩ (by simp) rfl
   clear hd9
   subst e18
   clear hi9
   have h9 := hR.f18 rfl
   subst h9
   replace hc := hR.hc
   refine wpOp_step rfl (fun K hK => ?_)
   go_simp
   exact hK _ _ ⟨⟨_,_,_,_,_,_,_,_,_,_,_,_,_,_,_,_,_,_,_,_,_,_,_,_,_,_,_,_,_,_,_,_,_,_,_,_,_,_,_,_,_,_,_,_⟩,rfl,rfl,{ hR with hc := hc }⟩
  ·obtain ⟨⟨b0,b1,b2,b3,b4,b5,b6,b7,b8,b9,b10,b11,b12,b13,b14,b15,b16,b17,b18,b19,b20,b21,b22,b23,b24,b25,b26,b27,b28,b29,v0,v1,v2,v3,v4,v5,v6,v7,v17,v18,v28,v29,bs9,os9⟩,rfl,rfl,hR⟩ := hI9
   have hc := hR.hc
   obtain rfl : b23 = false := by simpa using hl9
   clear hl9
   obtain ⟨o9,ho9,hd9⟩ := (mem_ready.1 hi9).2
   cases ho9
   have e18 : b18 = true := hd9 ⟨18,.guard⟩ (by simp) rfl
   clear hd9
   subst e18
   clear hi9
   have h9 := hR.f18 rfl
   subst h9
   replace hc := hR.hc
   refine wpOp_step rfl (fun K hK => ?_)
   go_simp
   exact hK _ _ ⟨⟨_,_,_,_,_,_,_,_,_,_,_,_,_,_,_,_,_,_,_,_,_,_,_,_,_,_,_,_,_,_,_,_,_,_,_,_,_,_,_,_,_,_,_,_⟩,rfl,rfl,{ hR with hc := hc }⟩
  ·obtain ⟨⟨b0,b1,b2,b3,b4,b5,b6,b7,b8,b9,b10,b11,b12,b13,b14,b15,b16,b17,b18,b19,b20,b21,b22,b23,b24,b25,b26,b27,b28,b29,v0,v1,v2,v3,v4,v5,v6,v7,v17,v18,v28,v29,bs9,os9⟩,rfl,rfl,hR⟩ := hI9
   have hc := hR.hc
   obtain rfl : b24 = false := by simpa using hl9
   clear hl9
   obtain ⟨o9,ho9,hd9⟩ := (mem_ready.1 hi9).2
   cases ho9
   have e18 : b18 = true := hd9 ⟨18,.guard⟩ (by simp) rfl
   clear hd9
   subst e18
   clear hi9
   have h9 := hR.f18 rfl
   subst h9
   replace hc := hR.hc
   refine wpOp_step rfl (fun K hK => ?_)
   go_simp
   exact hK _ _ ⟨⟨_,_,_,_,_,_,_,_,_,_,_,_,_,_,_,_,_,_,_,_,_,_,_,_,_,_,_,_,_,_,_,_,_,_,_,_,_,_,_,_,_,_,_,_⟩,rfl,rfl,{ hR with hc := hc }⟩
  ·obtain ⟨⟨b0,b1,b2,b3,b4,b5,b6,b7,b8,b9,b10,b11,b12,b13,b14,b15,b16,b17,b18,b19,b20,b21,b22,b23,b24,b25,b26,b27,b28,b29,v0,v1,v2,v3,v4,v5,v6,v7,v17,v18,v28,v29,bs9,os9⟩,rfl,rfl,hR⟩ := hI9
   have hc := hR.hc
   obtain rfl : b25 = false := by simpa using hl9
   clear hl9
   obtain ⟨o9,ho9,hd9⟩ := (mem_ready.1 hi9).2
   cases ho9
   have e18 : b18 = true := hd9 ⟨18,.guard⟩ (by simp) rfl
   clear hd9
   subst e18
   clear hi9
   have h9 := hR.f18 rfl
   subst h9
   replace hc := hR.hc
   refine wpOp_step rfl (fun K hK => ?_)
   go_simp
   exact hK _ _ ⟨⟨_,_,_,_,_,_,_,_,_,_,_,_,_,_,_,_,_,_,_,_,_,_,_,_,_,_,_,_,_,_,_,_,_,_,_,_,_,_,_,_,_,_,_,_⟩,rfl,rfl,{ hR with hc := hc }⟩
  ·obtain ⟨⟨b0,b1,b2,b3,b4,b5,b6,b7,b8,b9,b10,b11,b12,b13,b14,b15,b16,b17,b18,b19,b20,b21,b22,b23,b24,b25,b26,b27,b28,b29,v0,v1,v2,v3,v4,v5,v6,v7,v17,v18,v28,v29,bs9,os9⟩,rfl,rfl,hR⟩ := hI9
   have hc := hR.hc
   obtain rfl : b26 = false := by simpa using hl9
   clear hl9
   obtain ⟨o9,ho9,hd9⟩ := (mem_ready.1 hi9).2
   cases ho9
   have e18 : b18 = true := hd9 ⟨18,.guard⟩ (by simp) rfl
   clear hd9
   subst e18
   clear hi9
   have h9 := hR.f18 rfl
   subst h9
   replace hc := hR.hc
   refine wpOp_step rfl (fun K hK => ?_)
   go_simp
   exact hK _ _ ⟨⟨_,_,_,_,_,_,_,_,_,_,_,_,_,_,_,_,_,_,_,_,_,_,_,_,_,_,_,_,_,_,_,_,_,_,_,_,_,_,_,_,_,_,_,_⟩,rfl,rfl,{ hR with hc := hc }⟩
  ·obtain ⟨⟨b0,b1,b2,b3,b4,b5,b6,b7,b8,b9,b10,b11,b12,b13,b14,b15,b16,b17,b18,b19,b20,b21,b22,b23,b24,b25,b26,b27,b28,b29,v0,v1,v2,v3,v4,v5,v6,v7,v17,v18,v28,v29,bs9,os9⟩,rfl,rfl,hR⟩ := hI9
   have hc := hR.hc
   obtain rfl : b27 = false := by simpa using hl9
   clear hl9
   obtain ⟨o9,ho9,hd9⟩ := (mem_ready.1 hi9).2
   cases ho9
   have e18 : b18 = true := hd9 ⟨18,.chain⟩ (by simp) rfl
   clear hd9
   subst e18
   clear hi9
   have h9 := hR.f18 rfl
   subst h9
   replace hc := hR.hc
   refine wpOp_step rfl (fun K hK => ?_)
   go_simp
   exact hK _ _ ⟨⟨_,_,_,_,_,_,_,_,_,_,_,_,_,_,_,_,_,_,_,_,_,_,_,_,_,_,_,_,_,_,_,_,_,_,_,_,_,_,_,_,_,_,_,_⟩,rfl,rfl,{ hR with hc := hc }⟩
  ·obtain ⟨⟨b0,b1,b2,b3,b4,b5,b6,b7,b8,b9,b10,b11,b12,b13,b14,b15,b16,b17,b18,b19,b20,b21,b22,b23,b24,b25,b26,b27,b28,b29,v0,v1,v2,v3,v4,v5,v6,v7,v17,v18,v28,v29,bs9,os9⟩,rfl,rfl,hR⟩ := hI9
   have hc := hR.hc
   obtain rfl : b28 = false := by simpa using hl9
   clear hl9
   obtain ⟨o9,ho9,hd9⟩ := (mem_ready.1 hi9).2
   cases ho9
   have e18 : b18 = true := hd9 ⟨18,.data⟩ (by simp) rfl
   clear hd9
   subst e18
   clear hi9
   have h9 := hR.f18 rfl
   subst h9
   replace hc := hR.hc
   refine wpOp_step rfl (fun K hK => ?_)
   go_simp
   exact hK _ _ ⟨⟨_,_,_,_,_,_,_,_,_,_,_,_,_,_,_,_,_,_,_,_,_,_,_,_,_,_,_,_,_,_,_,_,_,_,_,_,_,_,_,_,_,_,_,_⟩,rfl,rfl,{ hR with hc := hc,f28 := (fun _ => by first | rfl | simp) }⟩
  ·obtain ⟨⟨b0,b1,b2,b3,b4,b5,b6,b7,b8,b9,b10,b11,b12,b13,b14,b15,b16,b17,b18,b19,b20,b21,b22,b23,b24,b25,b26,b27,b28,b29,v0,v1,v2,v3,v4,v5,v6,v7,v17,v18,v28,v29,bs9,os9⟩,rfl,rfl,hR⟩ := hI9
   have hc := hR.hc
   obtain rfl : b29 = false := by simpa using hl9
   clear hl9
   obtain ⟨o9,ho9,hd9⟩ := (mem_ready.1 hi9).2
   cases ho9
   have e28 : b28 = true := hd9 ⟨28,.data⟩ (by simp) rfl
   clear hd9
   subst e28
   clear hi9
   have h9 := hR.f28 rfl
   subst h9
   replace hc := hR.hc
   refine wpOp_step rfl (fun K hK => ?_)
   go_simp
   exact hK _ _ ⟨⟨_,_,_,_,_,_,_,_,_,_,_,_,_,_,_,_,_,_,_,_,_,_,_,_,_,_,_,_,_,_,_,_,_,_,_,_,_,_,_,_,_,_,_,_⟩,rfl,rfl,{ hR with hc := hc,f29 := (fun _ => rfl) }⟩
 ·rintro l act Wq1 ⟨⟨b0,b1,b2,b3,b4,b5,b6,b7,b8,b9,b10,b11,b12,b13,b14,b15,b16,b17,b18,b19,b20,b21,b22,b23,b24,b25,b26,b27,b28,b29,v0,v1,v2,v3,v4,v5,v6,v7,v17,v18,v28,v29,bs9,os9⟩,rfl,rfl,hR⟩ hr9
  obtain ⟨hc,f0,f1,f2,f3,f4,f5,f6,f7,f17,f18,f28,f29⟩ := hR
  have eall := all_done hr9 (by kernel_rfl) rfl
  obtain rfl : b0 = true := eall 0 (by decide)
  obtain rfl : b1 = true := eall 1 (by decide)
  obtain rfl : b2 = true := eall 2 (by decide)
  obtain rfl : b3 = true := eall 3 (by decide)
  obtain rfl : b4 = true := eall 4 (by decide)
  obtain rfl : b5 = true := eall 5 (by decide)
  obtain rfl : b6 = true := eall 6 (by decide)
  obtain rfl : b7 = true := eall 7 (by decide)
  obtain rfl : b8 = true := eall 8 (by decide)
  obtain rfl : b9 = true := eall 9 (by decide)
  obtain rfl : b10 = true := eall 10 (by decide)
  obtain rfl : b11 = true := eall 11 (by decide)
  obtain rfl : b12 = true := eall 12 (by decide)
  obtain rfl : b13 = true := eall 13 (by decide)
  obtain rfl : b14 = true := eall 14 (by decide)
  obtain rfl : b15 = true := eall 15 (by decide)
  obtain rfl : b16 = true := eall 16 (by decide)
  obtain rfl : b17 = true := eall 17 (by decide)
  obtain rfl : b18 = true := eall 18 (by decide)
  obtain rfl : b19 = true := eall 19 (by decide)
  obtain rfl : b20 = true := eall 20 (by decide)
  obtain rfl : b21 = true := eall 21 (by decide)
  obtain rfl : b22 = true := eall 22 (by decide)
  obtain rfl : b23 = true := eall 23 (by decide)
  obtain rfl : b24 = true := eall 24 (by decide)
  obtain rfl : b25 = true := eall 25 (by decide)
  obtain rfl : b26 = true := eall 26 (by decide)
  obtain rfl : b27 = true := eall 27 (by decide)
  obtain rfl : b28 = true := eall 28 (by decide)
  obtain rfl : b29 = true := eall 29 (by decide)
  clear hr9 eall
  have h9 := f0 rfl
  subst h9
  have h9 := f1 rfl
  subst h9
  have h9 := f2 rfl
  subst h9
  have h9 := f3 rfl
  subst h9
  have h9 := f4 rfl
  subst h9
  have h9 := f5 rfl
  subst h9
  have h9 := f6 rfl
  subst h9
  have h9 := f7 rfl
  subst h9
  have h9 := f17 rfl
  subst h9
  have h9 := f18 rfl
  subst h9
  have h9 := f28 rfl
  subst h9
  have h9 := f29 rfl
  subst h9
  have hbs9 : ∀ x,x ∈ ([⟨w.heap.size,#[.bool false,.slice a1 n1 c1,.slice a2 n2 c2,.bool true,.slice a3 n3 c3,.slice a4 n4 c4],53⟩] : List En) → x ∈ bs9 := by
   intro x hx
   rcases List.mem_cons.1 hx with rfl | hx
   ·exact (hc.old _ (by simp)).1
   exact absurd hx List.not_mem_nil
  have hos9 : ∀ x,x ∈ ([] : Os) → x ∈ os9 := by
   intro x hx
   exact absurd hx List.not_mem_nil
  have hS := hc.st.sub hbs9 (fun x hx => hx) hos9
  have hsz9 := hc.sz
  rw [hS9z,hsW9] at hsz9
  clear hbs9 hos9 hc f0 f1 f2 f3 f4 f5 f6 f7 f17 f18 f28 f29
  have hz1 := hsz9
  clear hsz9 hS9z hS9 hC9 hsW9
  go_wp2
  go_ret
  exact ⟨rfl,hS.fr⟩
 ·simp
 ·exact ⟨⟨false,false,false,false,false,false,false,false,false,false,false,false,false,false,false,false,false,false,false,false,false,false,false,false,false,false,false,false,false,false,undef,undef,undef,undef,undef,undef,undef,undef,undef,undef,undef,.bool false,_,_⟩,rfl,rfl,⟨hC9,nb,nb,nb,nb,nb,nb,nb,nb,nb,nb,nb,nb⟩⟩
set_option maxHeartbeats 1000000 in
theorem cmp_apart (a1 a2 a3 a4 : Option Addr) (n1 n2 n3 n4 c1 c2 c3 c4 : Nat) (x y : Rat) (w : World) (hx : Fq w false a1 n1 a2 n2 x) (hy : Fq w true a3 n3 a4 n4 y) :
  Calls Try.prog 12 #[.agg #[.bool false,.slice a1 n1 c1,.slice a2 n2 c2],.agg #[.bool true,.slice a3 n3 c3,.slice a4 n4 c4]] w fun en w' => en = .returned (.tuple #[.int .i64 1,.int .i64 0]) ∧ Below w.heap.size w w' := by
 have hS := ((Rs.begin w).alloc #[.bool false,.slice a1 n1 c1,.slice a2 n2 c2] 29).alloc #[.bool true,.slice a3 n3 c3,.slice a4 n4 c4] 29 |>.alloc #[.bool false,.slice a1 n1 c1,.slice a2 n2 c2,.bool true,.slice a3 n3 c3,.slice a4 n4 c4] 53
 simp only [World.size_alloc] at hS
 go_enter Try.func12,Try.ntmps12
 go_wp2_with fail
 refine (bothCheck_rat false true a1 a2 a3 a4 n1 n2 n3 n4 c1 c2 c3 c4 x y _ (hx.kept hS.fr) (hy.kept hS.fr)).mono ?_
 rintro en w1 ⟨rfl,hb⟩
 replace hS := hS.kept hb
 clear hb
 obtain ⟨⟨k0,k1,k2,k3,k4,k5,-⟩,⟨k6,-,-,-⟩,⟨k7,-,-,-⟩,-⟩ := hS.cells
 go_wp2_with fail
 refine (bothSame_apart a1 a2 a3 a4 n1 n2 n3 n4 c1 c2 c3 c4 _).mono ?_
 rintro en w2 ⟨rfl,hb⟩
 replace hS := hS.kept hb
 clear hb k0 k1 k2 k3 k4 k5 k6 k7
 obtain ⟨-,⟨k6,-,-,-⟩,⟨k7,-,-,-⟩,-⟩ := hS.cells
 go_wp2_with fail
 refine (sign_true _).mono ?_
 rintro en w3 ⟨rfl,hb⟩
 replace hS := hS.kept hb
 go_wp2
 exact bodyPost_ret (v := .tuple #[.int .i64 1,.int .i64 0]) (by simp [results,Try.results12,go_sem]) rfl ⟨rfl,hS.fr⟩
end Go.Proofs.Ytaiphahgjjjpbaa
