/- Of what RFieldRow stands on: RParse RZero. -/
import Derived.Test.YtaiphahgjjjpbaaPax
import Derived.Test.YtaiphahgjjjpbaaPba
namespace Go.Proofs.Ytaiphahgjjjpbaa
open Go.RowKit
structure Cuts (s d nT dT : ByteArray) (b : Bool) (k M D : Nat) : Prop where
 size : s.size ≤ 65536
 pre : ∀ e,PreAns s e → e = .returned (.tuple #[.string d,.bool b])
 cut : ∀ e,CutAns d e → e = .returned (.tuple #[.string nT,.string dT,.bool true])
 at0 : s.size = d.size + k
 nsz : nT.size ≤ s.size
 dsz : dT.size ≤ s.size
 num : ∀ base e w,ParseAns nT base e w → ∃ a n c,e = .returned (.tuple #[.agg #[.slice a n c],.int .i64 0,.int .i64 0]) ∧ Mine w base a n c M
 den : ∀ base e w,ParseAns dT base e w → ∃ a n c,e = .returned (.tuple #[.agg #[.slice a n c],.int .i64 0,.int .i64 0]) ∧ Mine w base a n c D
def ParseOk (w : World) (base : Nat) (en : Ending) (z : Rat) : Prop :=
 ∃ s a n c a' n' c',en = .returned (.tuple #[.agg #[.bool s,.slice a n c,.slice a' n' c'],.int .i64 0,.int .i64 0]) ∧ s = decide (z.num < 0) ∧ Mine w base a n c z.num.natAbs ∧ Mine w base a' n' c' z.den
set_option maxRecDepth 20000 in
set_option maxHeartbeats 4000000 in
theorem parse_rat (s d nT dT : ByteArray) (b : Bool) (k M D : Nat) (w : World) (hC : Cuts s d nT dT b k M D) (hD : 0 < D) (hM : ¬ Over M) (hD2 : ¬ Over D) :
  Calls Try.prog 17 #[.string s] w fun en w' => ParseOk w' w.heap.size en (mkRat (Rm.sgn b M) D) ∧ Below w.heap.size w w' := by
 have hS := (Rs.begin w).alloc #[.bool false,.slice none 0 0,.slice none 0 0] 29
 have HC := hide hC
 have h1 := hC.size
 have h2 := hC.at0
 have h3 := hC.nsz
 have h4 := hC.dsz
 clear hC
 go_enter Try.func17,Try.ntmps17
 go_wp2_with fail
 refine (prefix_any s _ (by omega)).mono ?_
 rintro en w1 ⟨hp,hb1⟩
 obtain rfl := (unhide HC).pre _ hp
 replace hS := hS.kept hb1
 clear hp hb1
 go_wp2_with fail
 refine (cut_any d _ (by omega)).mono ?_
 rintro en w2 ⟨hp,hb2⟩
 obtain rfl := (unhide HC).cut _ hp
 replace hS := hS.kept hb2
 clear hp hb2
 go_wp2_with fail
 refine (parse_any nT _ (by omega)).mono ?_
 rintro en w3 ⟨hp,hb3⟩
 have hz3 : w.heap.size + 1 ≤ w3.heap.size := by have a := hS.size; have c := hb3.size; have d := block_lt (hS.bx ⟨w.heap.size,#[.bool false,.slice none 0 0,.slice none 0 0],29⟩ (by simp)).1; simp only [] at d; omega
 obtain ⟨A1,N1,C1,rfl,hm1⟩ := (unhide HC).num _ _ _ hp
 have hs2 := hS.size
 replace hS := ((hS.kept hb3).own hm1 hs2).alloc #[.slice A1 N1 C1] 27
 clear hp hb3 hm1 hs2
 go_wp2_with fail
 refine (W_of hS 1 (by omega)).mono ?_
 clear hS
 rintro en w4 ⟨A2,N2,C2,rfl,hS,hz4⟩
 simp only [World.size_alloc] at hz4
 replace hS := hS.alloc #[.slice A2 N2 C2] 27
 go_wp2_with fail
 refine (parse_any dT _ (by omega)).mono ?_
 rintro en w5 ⟨hp,hb5⟩
 obtain ⟨A3,N3,C3,rfl,hm3⟩ := (unhide HC).den _ _ _ hp
 have hs2 := hS.size
 have hz5 := hb5.size
 simp only [World.size_alloc] at hz5
 replace hS := (hS.kept hb5).own hm3 hs2
 clear hp hb5 hm3 hs2
 have u1 := hS.cellAt (x := ⟨w4.heap.size,#[.slice A2 N2 C2],27⟩) (by simp) 0 (.slice A2 N2 C2) rfl
 have y1 := hS.frozen (x := ⟨w4.heap.size,#[.slice A2 N2 C2],27⟩) (by simp) 0
 simp only [] at u1 y1
 have hlt3 := block_lt (hS.bx ⟨w3.heap.size,#[.slice A1 N1 C1],27⟩ (by simp)).1
 have hlt0 := block_lt (hS.bx ⟨w.heap.size,#[.bool false,.slice none 0 0,.slice none 0 0],29⟩ (by simp)).1
 simp only [] at hlt3 hlt0
 have hw3 : w.heap.size + 1 ≤ w3.heap.size := hz3
 replace hS := hS.put (x := ⟨w4.heap.size,#[.slice A2 N2 C2],27⟩) (by simp) (by simp only []; omega) 0 (.slice A3 N3 C3) (by simp) [⟨w4.heap.size,#[.slice A3 N3 C3],27⟩,⟨w3.heap.size,#[.slice A1 N1 C1],27⟩,⟨w.heap.size,#[.bool false,.slice none 0 0,.slice none 0 0],29⟩] (by intro y hy; rcases List.mem_cons.1 hy with rfl | hy; exact Or.inl rfl; rcases List.mem_cons.1 hy with rfl | hy; exact Or.inr ⟨by simp,by simp only []; omega⟩; rcases List.mem_cons.1 hy with rfl | hy; exact Or.inr ⟨by simp,by simp only []; omega⟩; exact absurd hy List.not_mem_nil)
 have k1 := hS.cellAt (x := ⟨w4.heap.size,#[.slice A3 N3 C3],27⟩) (by simp) 0 (.slice A3 N3 C3) rfl
 have k2 := hS.cellAt (x := ⟨w3.heap.size,#[.slice A1 N1 C1],27⟩) (by simp) 0 (.slice A1 N1 C1) rfl
 simp only [] at k1 k2
 go_wp2_with fail
 clear u1 y1 k1 k2
 refine (make_rat b A1 A3 N1 N3 C1 C3 M D _ (hS.ow (A1,N1,C1,M) (by simp)).num (hS.ow (A3,N3,C3,D) (by simp)).num hD).mono ?_
 rintro en w6 ⟨⟨s7,b7,k7,l7,b8,k8,l8,r7,rfl,hq⟩,hb6⟩
 have hz6 := hb6.size
 replace hS := hS.kept hb6
 clear hb6
 replace hz6 : w4.heap.size + 1 ≤ w6.heap.size := by
  have : (w5.setCell ⟨w4.heap.size,0,none⟩ (.slice A3 N3 C3)).heap.size = w5.heap.size := by simp [World.setCell]
  omega
 have hq2 : r7 = 0 ∧ s7 = decide ((mkRat (Rm.sgn b M) D).num < 0) ∧ Mine w6 w.heap.size b7 k7 l7 (mkRat (Rm.sgn b M) D).num.natAbs ∧ Mine w6 w.heap.size b8 k8 l8 (mkRat (Rm.sgn b M) D).den := by
  rcases hq with ⟨e1,e2,e3,e4⟩ | ⟨_,_,ho⟩
  ·exact ⟨e1,e2,e3.mono (by simp [World.setCell]; omega),e4.mono (by simp [World.setCell]; omega)⟩
  ·exfalso
   have qm := Rm.Q.made (s := b) (n := M) (d := D) (by omega)
   rw [qm.abs,qm.den] at ho
   rcases ho with ho | ho
   ·exact hM (ho.mono (Nat.div_le_self _ _))
   ·exact hD2 (ho.mono (Nat.div_le_self _ _))
 clear hq
 obtain ⟨rfl,e2,e3,e4⟩ := hq2
 have E2 := hide e2
 clear e2
 replace hS := (hS.own e3 (Nat.le_refl _)).own e4 (Nat.le_refl _)
 clear e3 e4
 replace hS := hS.alloc #[.bool s7,.slice b7 k7 l7,.slice b8 k8 l8] 29
 have k0 := hS.cellAt (x := ⟨w6.heap.size,#[.bool s7,.slice b7 k7 l7,.slice b8 k8 l8],29⟩) (by simp) 0 (.bool s7) rfl
 have k1 := hS.cellAt (x := ⟨w6.heap.size,#[.bool s7,.slice b7 k7 l7,.slice b8 k8 l8],29⟩) (by simp) 1 (.slice b7 k7 l7) rfl
 have k2 := hS.cellAt (x := ⟨w6.heap.size,#[.bool s7,.slice b7 k7 l7,.slice b8 k8 l8],29⟩) (by simp) 2 (.slice b8 k8 l8) rfl
 have r0 := hS.cellAt (x := ⟨w.heap.size,#[.bool false,.slice none 0 0,.slice none 0 0],29⟩) (by simp) 0 (.bool false) rfl
 have r1 := hS.cellAt (x := ⟨w.heap.size,#[.bool false,.slice none 0 0,.slice none 0 0],29⟩) (by simp) 1 (.slice none 0 0) rfl
 have r2 := hS.cellAt (x := ⟨w.heap.size,#[.bool false,.slice none 0 0,.slice none 0 0],29⟩) (by simp) 2 (.slice none 0 0) rfl
 have f0 := hS.frozen (x := ⟨w.heap.size,#[.bool false,.slice none 0 0,.slice none 0 0],29⟩) (by simp) 0
 have f1 := hS.frozen (x := ⟨w.heap.size,#[.bool false,.slice none 0 0,.slice none 0 0],29⟩) (by simp) 1
 have f2 := hS.frozen (x := ⟨w.heap.size,#[.bool false,.slice none 0 0,.slice none 0 0],29⟩) (by simp) 2
 simp only [] at k0 k1 k2 r0 r1 r2 f0 f1 f2
 go_wp2
 replace hS := hS.sub (bs' := [⟨w.heap.size,#[.bool false,.slice none 0 0,.slice none 0 0],29⟩]) (ms' := []) (by intro x hx; rcases List.mem_cons.1 hx with rfl | hx; simp; exact absurd hx List.not_mem_nil) (by intro x hx; exact absurd hx List.not_mem_nil) (fun x hx => hx)
 replace hS := hS.put (x := ⟨w.heap.size,#[.bool false,.slice none 0 0,.slice none 0 0],29⟩) (by simp) (by simp only []; omega) 0 (.bool s7) (by simp) [⟨w.heap.size,#[.bool s7,.slice none 0 0,.slice none 0 0],29⟩] (by intro y hy; rcases List.mem_cons.1 hy with rfl | hy; exact Or.inl rfl; exact absurd hy List.not_mem_nil)
 replace hS := hS.put (x := ⟨w.heap.size,#[.bool s7,.slice none 0 0,.slice none 0 0],29⟩) (by simp) (by simp only []; omega) 1 (.slice b7 k7 l7) (by simp) [⟨w.heap.size,#[.bool s7,.slice b7 k7 l7,.slice none 0 0],29⟩] (by intro y hy; rcases List.mem_cons.1 hy with rfl | hy; exact Or.inl rfl; exact absurd hy List.not_mem_nil)
 replace hS := hS.put (x := ⟨w.heap.size,#[.bool s7,.slice b7 k7 l7,.slice none 0 0],29⟩) (by simp) (by simp only []; omega) 2 (.slice b8 k8 l8) (by simp) [⟨w.heap.size,#[.bool s7,.slice b7 k7 l7,.slice b8 k8 l8],29⟩] (by intro y hy; rcases List.mem_cons.1 hy with rfl | hy; exact Or.inl rfl; exact absurd hy List.not_mem_nil)
 exact bodyPost_ret (v := .tuple #[.agg #[.bool s7,.slice b7 k7 l7,.slice b8 k8 l8],.int .i64 0,.int .i64 0]) (by simp [results,Try.results17,go_sem,r0,r1,r2]) rfl ⟨⟨s7,b7,k7,l7,b8,k8,l8,rfl,unhide E2,hS.ow (b7,k7,l7,_) (List.mem_cons_of_mem _ (List.mem_cons_self ..)),hS.ow (b8,k8,l8,_) (List.mem_cons_self ..)⟩,hS.fr⟩
end Go.Proofs.Ytaiphahgjjjpbaa
namespace Go.Proofs.Ytaiphahgjjjpbaa
open Go.RowKit
set_option maxRecDepth 20000 in
set_option maxHeartbeats 4000000 in
theorem make_zero (s : Bool) (a a' : Option Addr) (n n' c c' m : Nat) (w : World) (h1 : Num w a n m) (h2 : Num w a' n' 0) :
  Calls Try.prog 14 #[.bool s,.agg #[.slice a n c],.agg #[.slice a' n' c']] w fun en w' => en = .returned (.tuple #[.agg #[.bool false,.slice none 0 0,.slice none 0 0],.int .i64 11]) ∧ Below w.heap.size w w' := by
 have hn0 : decide (n' = 0) = true := by rw [decide_eq_true_iff]; exact h2.zero.2 rfl
 have hS := ((((Rs.begin w).num h1).num h2).alloc #[.slice a n c] 27).alloc #[.slice a' n' c'] 27 |>.alloc #[.bool false,.slice none 0 0,.slice none 0 0] 29
 simp only [World.size_alloc] at hS
 go_enter Try.func14,Try.ntmps14
 go_wp2_with fail
 refine (check_num a n c m _ (hS.nm (a,n,m) (by simp))).mono ?_
 rintro en w1 ⟨rfl,hb⟩
 replace hS := hS.kept hb
 clear hb
 obtain ⟨⟨r0,r1,r2,-⟩,⟨k2,-⟩,⟨k1,-⟩,-⟩ := hS.cells
 go_wp2_with fail
 refine (check_num a' n' c' 0 _ (hS.nm (a',n',0) (by simp))).mono ?_
 rintro en w2 ⟨rfl,hb⟩
 replace hS := hS.kept hb
 clear hb r0 r1 r2 k1 k2
 obtain ⟨⟨r0,r1,r2,-⟩,⟨k2,-⟩,⟨k1,-⟩,-⟩ := hS.cells
 go_wp2_with fail
 refine (nought_any a' n' c' _).mono ?_
 rintro en w3 ⟨rfl,hb⟩
 rw [hn0]
 replace hS := hS.kept hb
 clear hb r0 r1 r2 k1 k2
 obtain ⟨⟨r0,r1,r2,-⟩,-⟩ := hS.cells
 have f0 := hS.frozen (x := ⟨w.heap.size + 1 + 1,#[.bool false,.slice none 0 0,.slice none 0 0],29⟩) (by simp) 0
 have f1 := hS.frozen (x := ⟨w.heap.size + 1 + 1,#[.bool false,.slice none 0 0,.slice none 0 0],29⟩) (by simp) 1
 have f2 := hS.frozen (x := ⟨w.heap.size + 1 + 1,#[.bool false,.slice none 0 0,.slice none 0 0],29⟩) (by simp) 2
 simp only [] at f0 f1 f2
 go_wp2
 have hF := ((Below.setCell hS.fr (p := ⟨w.heap.size + 1 + 1,0,none⟩) (show w.heap.size ≤ w.heap.size + 1 + 1 by omega) (.bool false)).setCell (p := ⟨w.heap.size + 1 + 1,1,none⟩) (show w.heap.size ≤ w.heap.size + 1 + 1 by omega) (.slice none 0 0)).setCell (p := ⟨w.heap.size + 1 + 1,2,none⟩) (show w.heap.size ≤ w.heap.size + 1 + 1 by omega) (.slice none 0 0)
 exact bodyPost_ret (v := .tuple #[.agg #[.bool false,.slice none 0 0,.slice none 0 0],.int .i64 11]) (by simp [results,Try.results14,go_sem,r0,r1,r2]) rfl ⟨rfl,hF⟩
set_option maxHeartbeats 1000000 in
theorem check_none (w : World) :
  Calls Try.prog 19 #[.agg #[.bool false,.slice none 0 0,.slice none 0 0]] w fun en w' => en = .returned (.int .i64 20) ∧ Below w.heap.size w w' := by
 have hS := (Rs.begin w).alloc #[.bool false,.slice none 0 0,.slice none 0 0] 29
 go_enter Try.func19,Try.ntmps19
 go_wp2_with fail
 refine (nought_any none 0 0 _).mono ?_
 rintro en w1 ⟨rfl,hb⟩
 rw [decide_eq_true rfl]
 replace hS := hS.kept hb
 go_wp2
 go_ret
 exact ⟨rfl,hS.fr⟩
set_option maxRecDepth 20000 in
set_option maxHeartbeats 4000000 in
theorem parse_zero (s d nT dT : ByteArray) (b : Bool) (k M : Nat) (w : World) (hC : Cuts s d nT dT b k M 0) (hk : k ≤ 1) :
  Calls Try.prog 17 #[.string s] w fun en w' => en = .returned (.tuple #[.agg #[.bool false,.slice none 0 0,.slice none 0 0],.int .i64 ((k : Int) + ((nT.size : Int) + 1)),.int .i64 11]) ∧ Below w.heap.size w w' := by
 have hS := (Rs.begin w).alloc #[.bool false,.slice none 0 0,.slice none 0 0] 29
 have HC := hide hC
 have h1 := hC.size
 have h2 := hC.at0
 have h3 := hC.nsz
 have h4 := hC.dsz
 clear hC
 go_enter Try.func17,Try.ntmps17
 go_wp2_with fail
 refine (prefix_any s _ (by omega)).mono ?_
 rintro en w1 ⟨hp,hb1⟩
 obtain rfl := (unhide HC).pre _ hp
 replace hS := hS.kept hb1
 clear hp hb1
 go_wp2_with fail
 refine (cut_any d _ (by omega)).mono ?_
 rintro en w2 ⟨hp,hb2⟩
 obtain rfl := (unhide HC).cut _ hp
 replace hS := hS.kept hb2
 clear hp hb2
 go_wp2_with fail
 refine (parse_any nT _ (by omega)).mono ?_
 rintro en w3 ⟨hp,hb3⟩
 have hz3 : w.heap.size + 1 ≤ w3.heap.size := by have a := hS.size; have c := hb3.size; have d := block_lt (hS.bx ⟨w.heap.size,#[.bool false,.slice none 0 0,.slice none 0 0],29⟩ (by simp)).1; simp only [] at d; omega
 obtain ⟨A1,N1,C1,rfl,hm1⟩ := (unhide HC).num _ _ _ hp
 have hs2 := hS.size
 replace hS := ((hS.kept hb3).own hm1 hs2).alloc #[.slice A1 N1 C1] 27
 clear hp hb3 hm1 hs2
 go_wp2_with fail
 refine (W_of hS 1 (by omega)).mono ?_
 clear hS
 rintro en w4 ⟨A2,N2,C2,rfl,hS,hz4⟩
 simp only [World.size_alloc] at hz4
 replace hS := hS.alloc #[.slice A2 N2 C2] 27
 go_wp2_with fail
 refine (parse_any dT _ (by omega)).mono ?_
 rintro en w5 ⟨hp,hb5⟩
 obtain ⟨A3,N3,C3,rfl,hm3⟩ := (unhide HC).den _ _ _ hp
 have hs2 := hS.size
 have hz5 := hb5.size
 simp only [World.size_alloc] at hz5
 replace hS := (hS.kept hb5).own hm3 hs2
 clear hp hb5 hm3 hs2
 have u1 := hS.cellAt (x := ⟨w4.heap.size,#[.slice A2 N2 C2],27⟩) (by simp) 0 (.slice A2 N2 C2) rfl
 have y1 := hS.frozen (x := ⟨w4.heap.size,#[.slice A2 N2 C2],27⟩) (by simp) 0
 simp only [] at u1 y1
 have hlt3 := block_lt (hS.bx ⟨w3.heap.size,#[.slice A1 N1 C1],27⟩ (by simp)).1
 have hlt0 := block_lt (hS.bx ⟨w.heap.size,#[.bool false,.slice none 0 0,.slice none 0 0],29⟩ (by simp)).1
 simp only [] at hlt3 hlt0
 have hw3 : w.heap.size + 1 ≤ w3.heap.size := hz3
 replace hS := hS.put (x := ⟨w4.heap.size,#[.slice A2 N2 C2],27⟩) (by simp) (by simp only []; omega) 0 (.slice A3 N3 C3) (by simp) [⟨w4.heap.size,#[.slice A3 N3 C3],27⟩,⟨w3.heap.size,#[.slice A1 N1 C1],27⟩,⟨w.heap.size,#[.bool false,.slice none 0 0,.slice none 0 0],29⟩] (by intro y hy; rcases List.mem_cons.1 hy with rfl | hy; exact Or.inl rfl; rcases List.mem_cons.1 hy with rfl | hy; exact Or.inr ⟨by simp,by simp only []; omega⟩; rcases List.mem_cons.1 hy with rfl | hy; exact Or.inr ⟨by simp,by simp only []; omega⟩; exact absurd hy List.not_mem_nil)
 have k1 := hS.cellAt (x := ⟨w4.heap.size,#[.slice A3 N3 C3],27⟩) (by simp) 0 (.slice A3 N3 C3) rfl
 have k2 := hS.cellAt (x := ⟨w3.heap.size,#[.slice A1 N1 C1],27⟩) (by simp) 0 (.slice A1 N1 C1) rfl
 simp only [] at k1 k2
 go_wp2_with fail
 clear u1 y1 k1 k2
 refine (make_zero b A1 A3 N1 N3 C1 C3 M _ (hS.ow (A1,N1,C1,M) (by simp)).num (hS.ow (A3,N3,C3,0) (by simp)).num).mono ?_
 rintro en w6 ⟨rfl,hb6⟩
 have hz6 := hb6.size
 replace hS := hS.kept hb6
 clear hb6
 replace hz6 : w4.heap.size + 1 ≤ w6.heap.size := by
  have : (w5.setCell ⟨w4.heap.size,0,none⟩ (.slice A3 N3 C3)).heap.size = w5.heap.size := by simp [World.setCell]
  omega
 replace hS := hS.alloc #[.bool false,.slice none 0 0,.slice none 0 0] 29
 have r0 := hS.cellAt (x := ⟨w.heap.size,#[.bool false,.slice none 0 0,.slice none 0 0],29⟩) (by simp) 0 (.bool false) rfl
 have r1 := hS.cellAt (x := ⟨w.heap.size,#[.bool false,.slice none 0 0,.slice none 0 0],29⟩) (by simp) 1 (.slice none 0 0) rfl
 have r2 := hS.cellAt (x := ⟨w.heap.size,#[.bool false,.slice none 0 0,.slice none 0 0],29⟩) (by simp) 2 (.slice none 0 0) rfl
 have f0 := hS.frozen (x := ⟨w.heap.size,#[.bool false,.slice none 0 0,.slice none 0 0],29⟩) (by simp) 0
 have f1 := hS.frozen (x := ⟨w.heap.size,#[.bool false,.slice none 0 0,.slice none 0 0],29⟩) (by simp) 1
 have f2 := hS.frozen (x := ⟨w.heap.size,#[.bool false,.slice none 0 0,.slice none 0 0],29⟩) (by simp) 2
 simp only [] at r0 r1 r2 f0 f1 f2
 go_wp2
 have hF := ((Below.setCell hS.fr (p := ⟨w.heap.size,0,none⟩) (Nat.le_refl _) (.bool false)).setCell (p := ⟨w.heap.size,1,none⟩) (Nat.le_refl _) (.slice none 0 0)).setCell (p := ⟨w.heap.size,2,none⟩) (Nat.le_refl _) (.slice none 0 0)
 refine bodyPost_ret (v := .tuple #[.agg #[.bool false,.slice none 0 0,.slice none 0 0],.int .i64 ((k : Int) + ((nT.size : Int) + 1)),.int .i64 11]) (by simp [results,Try.results17,go_sem,r0,r1,r2]; omega) rfl ⟨rfl,hF⟩
end Go.Proofs.Ytaiphahgjjjpbaa
