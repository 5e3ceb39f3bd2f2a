/- Of what RatioOrderRow stands on: RParse RZero RAlive. -/
import Derived.Test.YtfhmbnnlcjdblaaGreatPav
import Derived.Test.YtfhmbnnlcjdblaaGreatPba
import Derived.Test.YtfhmbnnlcjdblaaGreatPax
namespace Go.Proofs.YtfhmbnnlcjdblaaGreat
open Go.RowKit
set_option maxHeartbeats 8000000
set_option maxRecDepth 20000
structure Cuts (s d nT dT:ByteArray) (b:Bool) (k M D:Nat):Prop where
 size:s.size≤65536
 pre:∀ e,PreAns s e→e = .returned (.tuple #[.string d,.bool b])
 cut:∀ e,CutAns d e→e = .returned (.tuple #[.string nT,.string dT,.bool true])
 at0:s.size = d.size+k
 nsz:nT.size≤s.size
 dsz:dT.size≤s.size
 num:∀ base e w,ParseAns nT base e w→∃ a n c,e = .returned (.tuple #[.agg #[.slice a n c],.int .i64 0,.int .i64 0])∧Mine w base a n c M
 den:∀ base e w,ParseAns dT base e w→∃ a n c,e = .returned (.tuple #[.agg #[.slice a n c],.int .i64 0,.int .i64 0])∧Mine w base a n c D
def ParseOk (w:World) (base:Nat) (en:Ending) (z:Rat):Prop:=
 ∃ s a n c a' n' c',en = .returned (.tuple #[.agg #[.bool s,.slice a n c,.slice a' n' c'],.int .i64 0,.int .i64 0])∧s = decide (z.num < 0)∧Mine w base a n c z.num.natAbs∧Mine w base a' n' c' z.den
theorem parse_rat (s d nT dT:ByteArray) (b:Bool) (k M D:Nat) (w:World) (hC:Cuts s d nT dT b k M D) (hD:0 < D) (hM:¬ Over M) (hD2:¬ Over D) :
  Calls Tryz.prog 14 #[.string s] w fun en w'=>ParseOk w' w.heap.size en (mkRat (Rm.sgn b M) D)∧Below w.heap.size w w':=by
 have hS:=(Rs.begin w).alloc #[.bool false,.slice none 0 0,.slice none 0 0] 29
 have HC:=hide hC
 have h1:=hC.size
 have h2:=hC.at0
 have h3:=hC.nsz
 have h4:=hC.dsz
 clear hC
 go_enter Tryz.func14,Tryz.ntmps14
 go_wp2_with fail
 refine (prefix_any s _ (by omega)).mono ?_
 rintro en w1 ⟨hp,hb1⟩
 obtain rfl:=(unhide HC).pre _ hp
 replace hS:=hS.kept hb1
 clear hp hb1
 go_wp2_with fail
 refine (cut_any d _ (by omega)).mono ?_
 rintro en w2 ⟨hp,hb2⟩
 obtain rfl:=(unhide HC).cut _ hp
 replace hS:=hS.kept hb2
 clear hp hb2
 go_wp2_with fail
 refine (parse_any nT _ (by omega)).mono ?_
 rintro en w3 ⟨hp,hb3⟩
 have hz3:w.heap.size+1≤w3.heap.size:=by have a:=hS.size; have c:=hb3.size; have d:=block_lt (hS.bx ⟨w.heap.size,#[.bool false,.slice none 0 0,.slice none 0 0],29⟩ (by simp)).1; simp only [] at d; omega
 obtain ⟨A1,N1,C1,rfl,hm1⟩:=(unhide HC).num _ _ _ hp
 have hs2:=hS.size
 replace hS:=((hS.kept hb3).own hm1 hs2).alloc #[.slice A1 N1 C1] 27
 clear hp hb3 hm1 hs2
 go_wp2_with fail
 refine (W_of hS 1 (by omega)).mono ?_
 clear hS
 rintro en w4 ⟨A2,N2,C2,rfl,hS,hz4⟩
 simp only [World.size_alloc] at hz4
 replace hS:=hS.alloc #[.slice A2 N2 C2] 27
 go_wp2_with fail
 refine (parse_any dT _ (by omega)).mono ?_
 rintro en w5 ⟨hp,hb5⟩
 obtain ⟨A3,N3,C3,rfl,hm3⟩:=(unhide HC).den _ _ _ hp
 have hs2:=hS.size
 have hz5:=hb5.size
 simp only [World.size_alloc] at hz5
 replace hS:=(hS.kept hb5).own hm3 hs2
 clear hp hb5 hm3 hs2
 have u1:=hS.cellAt (x:=⟨w4.heap.size,#[.slice A2 N2 C2],27⟩) (by simp) 0 (.slice A2 N2 C2) rfl
 have y1:=hS.frozen (x:=⟨w4.heap.size,#[.slice A2 N2 C2],27⟩) (by simp) 0
 simp only [] at u1 y1
 have hlt3:=block_lt (hS.bx ⟨w3.heap.size,#[.slice A1 N1 C1],27⟩ (by simp)).1
 have hlt0:=block_lt (hS.bx ⟨w.heap.size,#[.bool false,.slice none 0 0,.slice none 0 0],29⟩ (by simp)).1
 simp only [] at hlt3 hlt0
 have hw3:w.heap.size+1≤w3.heap.size:=hz3
 replace hS:=hS.put (x:=⟨w4.heap.size,#[.slice A2 N2 C2],27⟩) (by simp) (by simp only []; omega) 0 (.slice A3 N3 C3) (by simp) [⟨w4.heap.size,#[.slice A3 N3 C3],27⟩,⟨w3.heap.size,#[.slice A1 N1 C1],27⟩,⟨w.heap.size,#[.bool false,.slice none 0 0,.slice none 0 0],29⟩] (by intro y hy; rcases List.mem_cons.1 hy with rfl|hy; exact Or.inl rfl; rcases List.mem_cons.1 hy with rfl|hy; exact Or.inr ⟨by simp,by simp only []; omega⟩; rcases List.mem_cons.1 hy with rfl|hy; exact Or.inr ⟨by simp,by simp only []; omega⟩; exact absurd hy List.not_mem_nil)
 have k1:=hS.cellAt (x:=⟨w4.heap.size,#[.slice A3 N3 C3],27⟩) (by simp) 0 (.slice A3 N3 C3) rfl
 have k2:=hS.cellAt (x:=⟨w3.heap.size,#[.slice A1 N1 C1],27⟩) (by simp) 0 (.slice A1 N1 C1) rfl
 simp only [] at k1 k2
 go_wp2_with fail
 clear u1 y1 k1 k2
 refine (make_rat b A1 A3 N1 N3 C1 C3 M D _ (hS.ow (A1,N1,C1,M) (by simp)).num (hS.ow (A3,N3,C3,D) (by simp)).num hD).mono ?_
 rintro en w6 ⟨⟨s7,b7,k7,l7,b8,k8,l8,r7,rfl,hq⟩,hb6⟩
 have hz6:=hb6.size
 replace hS:=hS.kept hb6
 clear hb6
 replace hz6:w4.heap.size+1≤w6.heap.size:=by
  have:(w5.setCell ⟨w4.heap.size,0,none⟩ (.slice A3 N3 C3)).heap.size = w5.heap.size:=by simp [World.setCell]
  omega
 have hq2:r7 = 0∧s7 = decide ((mkRat (Rm.sgn b M) D).num < 0)∧Mine w6 w.heap.size b7 k7 l7 (mkRat (Rm.sgn b M) D).num.natAbs∧Mine w6 w.heap.size b8 k8 l8 (mkRat (Rm.sgn b M) D).den:=by
  rcases hq with ⟨e1,e2,e3,e4⟩|⟨_,_,ho⟩
  ·exact ⟨e1,e2,e3.mono (by simp [World.setCell]; omega),e4.mono (by simp [World.setCell]; omega)⟩
  ·exfalso
   have qm:=Rm.Q.made (s:=b) (n:=M) (d:=D) (by omega)
   rw [qm.abs,qm.den] at ho
   rcases ho with ho|ho
   ·exact hM (ho.mono (Nat.div_le_self _ _))
   ·exact hD2 (ho.mono (Nat.div_le_self _ _))
 clear hq
 obtain ⟨rfl,e2,e3,e4⟩:=hq2
 have E2:=hide e2
 clear e2
 replace hS:=(hS.own e3 (Nat.le_refl _)).own e4 (Nat.le_refl _)
 clear e3 e4
 replace hS:=hS.alloc #[.bool s7,.slice b7 k7 l7,.slice b8 k8 l8] 29
 have k0:=hS.cellAt (x:=⟨w6.heap.size,#[.bool s7,.slice b7 k7 l7,.slice b8 k8 l8],29⟩) (by simp) 0 (.bool s7) rfl
 have k1:=hS.cellAt (x:=⟨w6.heap.size,#[.bool s7,.slice b7 k7 l7,.slice b8 k8 l8],29⟩) (by simp) 1 (.slice b7 k7 l7) rfl
 have k2:=hS.cellAt (x:=⟨w6.heap.size,#[.bool s7,.slice b7 k7 l7,.slice b8 k8 l8],29⟩) (by simp) 2 (.slice b8 k8 l8) rfl
 have r0:=hS.cellAt (x:=⟨w.heap.size,#[.bool false,.slice none 0 0,.slice none 0 0],29⟩) (by simp) 0 (.bool false) rfl
 have r1:=hS.cellAt (x:=⟨w.heap.size,#[.bool false,.slice none 0 0,.slice none 0 0],29⟩) (by simp) 1 (.slice none 0 0) rfl
 have r2:=hS.cellAt (x:=⟨w.heap.size,#[.bool false,.slice none 0 0,.slice none 0 0],29⟩) (by simp) 2 (.slice none 0 0) rfl
 have Q_:=hS.frozen (x:=⟨w.heap.size,#[.bool false,.slice none 0 0,.slice none 0 0],29⟩) (by simp)
 have f0:=Q_ 0
 have f1:=Q_ 1
 have f2:=Q_ 2
 clear Q_
 simp only [] at k0 k1 k2 r0 r1 r2 f0 f1 f2
 go_wp2
 replace hS:=hS.sub (bs':=[⟨w.heap.size,#[.bool false,.slice none 0 0,.slice none 0 0],29⟩]) (ms':=[]) (by intro x hx; rcases List.mem_cons.1 hx with rfl|hx; simp; exact absurd hx List.not_mem_nil) (by intro x hx; exact absurd hx List.not_mem_nil) (fun x hx=>hx)
 replace hS:=hS.put (x:=⟨w.heap.size,#[.bool false,.slice none 0 0,.slice none 0 0],29⟩) (by simp) (by simp only []; omega) 0 (.bool s7) (by simp) [⟨w.heap.size,#[.bool s7,.slice none 0 0,.slice none 0 0],29⟩] (by intro y hy; rcases List.mem_cons.1 hy with rfl|hy; exact Or.inl rfl; exact absurd hy List.not_mem_nil)
 replace hS:=hS.put (x:=⟨w.heap.size,#[.bool s7,.slice none 0 0,.slice none 0 0],29⟩) (by simp) (by simp only []; omega) 1 (.slice b7 k7 l7) (by simp) [⟨w.heap.size,#[.bool s7,.slice b7 k7 l7,.slice none 0 0],29⟩] (by intro y hy; rcases List.mem_cons.1 hy with rfl|hy; exact Or.inl rfl; exact absurd hy List.not_mem_nil)
 replace hS:=hS.put (x:=⟨w.heap.size,#[.bool s7,.slice b7 k7 l7,.slice none 0 0],29⟩) (by simp) (by simp only []; omega) 2 (.slice b8 k8 l8) (by simp) [⟨w.heap.size,#[.bool s7,.slice b7 k7 l7,.slice b8 k8 l8],29⟩] (by intro y hy; rcases List.mem_cons.1 hy with rfl|hy; exact Or.inl rfl; exact absurd hy List.not_mem_nil)
 exact bodyPost_ret (v:=.tuple #[.agg #[.bool s7,.slice b7 k7 l7,.slice b8 k8 l8],.int .i64 0,.int .i64 0]) (by simp [results,Tryz.results14,go_sem,r0,r1,r2]) rfl ⟨⟨s7,b7,k7,l7,b8,k8,l8,rfl,unhide E2,hS.ow (b7,k7,l7,_) (List.mem_cons_of_mem _ (List.mem_cons_self ..)),hS.ow (b8,k8,l8,_) (List.mem_cons_self ..)⟩,hS.fr⟩
theorem make_zero (s:Bool) (a a':Option Addr) (n n' c c' m:Nat) (w:World) (h1:Num w a n m) (h2:Num w a' n' 0) :
  Calls Tryz.prog 9 #[.bool s,.agg #[.slice a n c],.agg #[.slice a' n' c']] w fun en w'=>en = .returned (.tuple #[.agg #[.bool false,.slice none 0 0,.slice none 0 0],.int .i64 11])∧Below w.heap.size w w':=by
 have hn0:decide (n' = 0) = true:=by rw [decide_eq_true_iff]; exact h2.zero.2 rfl
 have hS:=((((Rs.begin w).num h1).num h2).alloc #[.slice a n c] 27).alloc #[.slice a' n' c'] 27 |>.alloc #[.bool false,.slice none 0 0,.slice none 0 0] 29
 simp only [World.size_alloc] at hS
 go_enter Tryz.func9,Tryz.ntmps9
 go_wp2_with fail
 refine (check_num a n c m _ (hS.nm (a,n,m) (by simp))).mono ?_
 rintro en w1 ⟨rfl,hb⟩
 replace hS:=hS.kept hb
 clear hb
 obtain ⟨⟨r0,r1,r2,-⟩,⟨k2,-⟩,⟨k1,-⟩,-⟩:=hS.cells
 go_wp2_with fail
 refine (check_num a' n' c' 0 _ (hS.nm (a',n',0) (by simp))).mono ?_
 rintro en w2 ⟨rfl,hb⟩
 replace hS:=hS.kept hb
 clear hb r0 r1 r2 k1 k2
 obtain ⟨⟨r0,r1,r2,-⟩,⟨k2,-⟩,⟨k1,-⟩,-⟩:=hS.cells
 go_wp2_with fail
 refine (nought_any a' n' c' _).mono ?_
 rintro en w3 ⟨rfl,hb⟩
 rw [hn0]
 replace hS:=hS.kept hb
 clear hb r0 r1 r2 k1 k2
 obtain ⟨⟨r0,r1,r2,-⟩,-⟩:=hS.cells
 have Q_:=hS.frozen (x:=⟨w.heap.size+1+1,#[.bool false,.slice none 0 0,.slice none 0 0],29⟩) (by simp)
 have f0:=Q_ 0
 have f1:=Q_ 1
 have f2:=Q_ 2
 clear Q_
 simp only [] at f0 f1 f2
 go_wp2
 have hF:=((Below.setCell hS.fr (p:=⟨w.heap.size+1+1,0,none⟩) (show w.heap.size≤w.heap.size+1+1 by omega) (.bool false)).setCell (p:=⟨w.heap.size+1+1,1,none⟩) (show w.heap.size≤w.heap.size+1+1 by omega) (.slice none 0 0)).setCell (p:=⟨w.heap.size+1+1,2,none⟩) (show w.heap.size≤w.heap.size+1+1 by omega) (.slice none 0 0)
 exact bodyPost_ret (v:=.tuple #[.agg #[.bool false,.slice none 0 0,.slice none 0 0],.int .i64 11]) (by simp [results,Tryz.results9,go_sem,r0,r1,r2]) rfl ⟨rfl,hF⟩
theorem check_none (w:World) :
  Calls Tryz.prog 16 #[.agg #[.bool false,.slice none 0 0,.slice none 0 0]] w fun en w'=>en = .returned (.int .i64 20)∧Below w.heap.size w w':=by
 have hS:=(Rs.begin w).alloc #[.bool false,.slice none 0 0,.slice none 0 0] 29
 go_enter Tryz.func16,Tryz.ntmps16
 go_wp2_with fail
 refine (nought_any none 0 0 _).mono ?_
 rintro en w1 ⟨rfl,hb⟩
 rw [decide_eq_true rfl]
 replace hS:=hS.kept hb
 go_wp2
 go_ret
 exact ⟨rfl,hS.fr⟩
theorem parse_zero (s d nT dT:ByteArray) (b:Bool) (k M:Nat) (w:World) (hC:Cuts s d nT dT b k M 0) (hk:k≤1) :
  Calls Tryz.prog 14 #[.string s] w fun en w'=>en = .returned (.tuple #[.agg #[.bool false,.slice none 0 0,.slice none 0 0],.int .i64 ((k:Int)+((nT.size:Int)+1)),.int .i64 11])∧Below w.heap.size w w':=by
 have hS:=(Rs.begin w).alloc #[.bool false,.slice none 0 0,.slice none 0 0] 29
 have HC:=hide hC
 have h1:=hC.size
 have h2:=hC.at0
 have h3:=hC.nsz
 have h4:=hC.dsz
 clear hC
 go_enter Tryz.func14,Tryz.ntmps14
 go_wp2_with fail
 refine (prefix_any s _ (by omega)).mono ?_
 rintro en w1 ⟨hp,hb1⟩
 obtain rfl:=(unhide HC).pre _ hp
 replace hS:=hS.kept hb1
 clear hp hb1
 go_wp2_with fail
 refine (cut_any d _ (by omega)).mono ?_
 rintro en w2 ⟨hp,hb2⟩
 obtain rfl:=(unhide HC).cut _ hp
 replace hS:=hS.kept hb2
 clear hp hb2
 go_wp2_with fail
 refine (parse_any nT _ (by omega)).mono ?_
 rintro en w3 ⟨hp,hb3⟩
 have hz3:w.heap.size+1≤w3.heap.size:=by have a:=hS.size; have c:=hb3.size; have d:=block_lt (hS.bx ⟨w.heap.size,#[.bool false,.slice none 0 0,.slice none 0 0],29⟩ (by simp)).1; simp only [] at d; omega
 obtain ⟨A1,N1,C1,rfl,hm1⟩:=(unhide HC).num _ _ _ hp
 have hs2:=hS.size
 replace hS:=((hS.kept hb3).own hm1 hs2).alloc #[.slice A1 N1 C1] 27
 clear hp hb3 hm1 hs2
 go_wp2_with fail
 refine (W_of hS 1 (by omega)).mono ?_
 clear hS
 rintro en w4 ⟨A2,N2,C2,rfl,hS,hz4⟩
 simp only [World.size_alloc] at hz4
 replace hS:=hS.alloc #[.slice A2 N2 C2] 27
 go_wp2_with fail
 refine (parse_any dT _ (by omega)).mono ?_
 rintro en w5 ⟨hp,hb5⟩
 obtain ⟨A3,N3,C3,rfl,hm3⟩:=(unhide HC).den _ _ _ hp
 have hs2:=hS.size
 have hz5:=hb5.size
 simp only [World.size_alloc] at hz5
 replace hS:=(hS.kept hb5).own hm3 hs2
 clear hp hb5 hm3 hs2
 have u1:=hS.cellAt (x:=⟨w4.heap.size,#[.slice A2 N2 C2],27⟩) (by simp) 0 (.slice A2 N2 C2) rfl
 have y1:=hS.frozen (x:=⟨w4.heap.size,#[.slice A2 N2 C2],27⟩) (by simp) 0
 simp only [] at u1 y1
 have hlt3:=block_lt (hS.bx ⟨w3.heap.size,#[.slice A1 N1 C1],27⟩ (by simp)).1
 have hlt0:=block_lt (hS.bx ⟨w.heap.size,#[.bool false,.slice none 0 0,.slice none 0 0],29⟩ (by simp)).1
 simp only [] at hlt3 hlt0
 have hw3:w.heap.size+1≤w3.heap.size:=hz3
 replace hS:=hS.put (x:=⟨w4.heap.size,#[.slice A2 N2 C2],27⟩) (by simp) (by simp only []; omega) 0 (.slice A3 N3 C3) (by simp) [⟨w4.heap.size,#[.slice A3 N3 C3],27⟩,⟨w3.heap.size,#[.slice A1 N1 C1],27⟩,⟨w.heap.size,#[.bool false,.slice none 0 0,.slice none 0 0],29⟩] (by intro y hy; rcases List.mem_cons.1 hy with rfl|hy; exact Or.inl rfl; rcases List.mem_cons.1 hy with rfl|hy; exact Or.inr ⟨by simp,by simp only []; omega⟩; rcases List.mem_cons.1 hy with rfl|hy; exact Or.inr ⟨by simp,by simp only []; omega⟩; exact absurd hy List.not_mem_nil)
 have k1:=hS.cellAt (x:=⟨w4.heap.size,#[.slice A3 N3 C3],27⟩) (by simp) 0 (.slice A3 N3 C3) rfl
 have k2:=hS.cellAt (x:=⟨w3.heap.size,#[.slice A1 N1 C1],27⟩) (by simp) 0 (.slice A1 N1 C1) rfl
 simp only [] at k1 k2
 go_wp2_with fail
 clear u1 y1 k1 k2
 refine (make_zero b A1 A3 N1 N3 C1 C3 M _ (hS.ow (A1,N1,C1,M) (by simp)).num (hS.ow (A3,N3,C3,0) (by simp)).num).mono ?_
 rintro en w6 ⟨rfl,hb6⟩
 have hz6:=hb6.size
 replace hS:=hS.kept hb6
 clear hb6
 replace hz6:w4.heap.size+1≤w6.heap.size:=by
  have:(w5.setCell ⟨w4.heap.size,0,none⟩ (.slice A3 N3 C3)).heap.size = w5.heap.size:=by simp [World.setCell]
  omega
 replace hS:=hS.alloc #[.bool false,.slice none 0 0,.slice none 0 0] 29
 have r0:=hS.cellAt (x:=⟨w.heap.size,#[.bool false,.slice none 0 0,.slice none 0 0],29⟩) (by simp) 0 (.bool false) rfl
 have r1:=hS.cellAt (x:=⟨w.heap.size,#[.bool false,.slice none 0 0,.slice none 0 0],29⟩) (by simp) 1 (.slice none 0 0) rfl
 have r2:=hS.cellAt (x:=⟨w.heap.size,#[.bool false,.slice none 0 0,.slice none 0 0],29⟩) (by simp) 2 (.slice none 0 0) rfl
 have Q_:=hS.frozen (x:=⟨w.heap.size,#[.bool false,.slice none 0 0,.slice none 0 0],29⟩) (by simp)
 have f0:=Q_ 0
 have f1:=Q_ 1
 have f2:=Q_ 2
 clear Q_
 simp only [] at r0 r1 r2 f0 f1 f2
 go_wp2
 have hF:=((Below.setCell hS.fr (p:=⟨w.heap.size,0,none⟩) (Nat.le_refl _) (.bool false)).setCell (p:=⟨w.heap.size,1,none⟩) (Nat.le_refl _) (.slice none 0 0)).setCell (p:=⟨w.heap.size,2,none⟩) (Nat.le_refl _) (.slice none 0 0)
 refine bodyPost_ret (v:=.tuple #[.agg #[.bool false,.slice none 0 0,.slice none 0 0],.int .i64 ((k:Int)+((nT.size:Int)+1)),.int .i64 11]) (by simp [results,Tryz.results14,go_sem,r0,r1,r2]; omega) rfl ⟨rfl,hF⟩
theorem digits_num (l:List UInt8) (hl:l.all (fun b=>decide (48≤b.toNat) && decide (b.toNat≤57)) = true) (h0:l≠[]) (hs:l.length≤65536) (M:Nat) (hM:Pl.dval (l.map (fun b=>b.toNat - 48)) 0 = M) (base:Nat) (e:Ending) (w:World)
  (h:ParseAns ⟨l.toArray⟩ base e w):∃ a n c,e = .returned (.tuple #[.agg #[.slice a n c],.int .i64 0,.int .i64 0])∧Mine w base a n c M:=by
 have hsz:(⟨l.toArray⟩:ByteArray).size = l.length:=by simp [ByteArray.size]
 rcases h with ⟨h,_⟩|⟨h,_⟩|⟨i,hi,_,_,hn,_⟩|⟨a,n,c,_,_,_,rfl,hm⟩
 ·omega
 ·rw [hsz] at h; exact absurd (List.length_eq_zero_iff.1 h) h0
 ·exfalso
  apply hn
  have hi':i < l.length:=by omega
  have hx:(⟨l.toArray⟩:ByteArray)[i] = l[i]:=by simp [ByteArray.getElem_eq_getElem_data]
  rw [hx]
  have:=List.all_eq_true.1 hl l[i] (List.getElem_mem hi')
  simpa using this
 ·refine ⟨a,n,c,rfl,?_⟩
  have:digs ⟨l.toArray⟩ = l.map (fun b=>b.toNat - 48):=by simp [digs]
  rw [this,hM] at hm
  exact hm
theorem pre_none (l:List UInt8) (hl:l.head?≠some 45) (e:Ending) (h:PreAns ⟨l.toArray⟩ e):e = .returned (.tuple #[.string ⟨l.toArray⟩,.bool false]):=by
 rcases h with ⟨_,h⟩|⟨h,_⟩
 ·exact h
 ·exfalso
  unfold minus at h
  rw [Lib.extract_toList] at h
  match l,hl with
  | [],_=>simp [ByteArray.size] at h
  | b :: r,hl=>
   simp at h hl
   exact hl h.2
theorem pre_minus (l:List UInt8) (e:Ending) (h:PreAns ⟨(45 :: l).toArray⟩ e):e = .returned (.tuple #[.string ⟨l.toArray⟩,.bool true]):=by
 rcases h with ⟨h,_⟩|⟨_,_,h⟩
 ·exfalso
  unfold minus at h
  rw [Lib.extract_toList] at h
  simp [ByteArray.size] at h
 ·rw [h,Lib.extract_eq]
  simp [ByteArray.size]
theorem cut_at (l r:List UInt8) (hl:Lib.indexByte (l ++ 47 :: r) 47 = (l.length:Int)) (e:Ending) (h:CutAns ⟨(l ++ 47 :: r).toArray⟩ e):e = .returned (.tuple #[.string ⟨l.toArray⟩,.string ⟨r.toArray⟩,.bool true]):=by
 rcases h with ⟨h,_⟩|⟨i,h,_,rfl⟩
 ·have:(⟨(l ++ 47 :: r).toArray⟩:ByteArray).data.toList = l ++ 47 :: r:=rfl
  rw [this,hl] at h; omega
 ·have:(⟨(l ++ 47 :: r).toArray⟩:ByteArray).data.toList = l ++ 47 :: r:=rfl
  rw [this,hl] at h
  have hi:l.length = i:=by omega
  subst hi
  rw [Lib.extract_eq,Lib.extract_eq]
  have e1:(⟨(l ++ 47 :: r).toArray⟩:ByteArray).size = l.length+(r.length+1):=by simp [ByteArray.size]
  rw [e1]
  simp [List.drop_append]
  rw [List.drop_eq_nil_of_le (by omega),List.nil_append,List.take_of_length_le (by omega)]
theorem cuts_of (b:Bool) (l r:List UInt8) (M D:Nat) (hm:b = true∨(l ++ 47 :: r).head?≠some 45) (hix:Lib.indexByte (l ++ 47 :: r) 47 = (l.length:Int)) (hl:l.all (fun b=>decide (48≤b.toNat) && decide (b.toNat≤57)) = true) (hr:r.all (fun b=>decide (48≤b.toNat) && decide (b.toNat≤57)) = true) (l0:l≠[]) (r0:r≠[]) (hs:l.length+r.length≤1000)
  (hM:Pl.dval (l.map (fun b=>b.toNat - 48)) 0 = M) (hD:Pl.dval (r.map (fun b=>b.toNat - 48)) 0 = D) :
  Cuts ⟨(if b then 45 :: (l ++ 47 :: r) else l ++ 47 :: r).toArray⟩ ⟨(l ++ 47 :: r).toArray⟩ ⟨l.toArray⟩ ⟨r.toArray⟩ b (if b then 1 else 0) M D:=by
 cases b
 ·have hm':=hm.resolve_left (by simp)
  refine ⟨?_,fun e h=>pre_none _ hm' e h,fun e h=>cut_at l r hix e h,?_,?_,?_,fun base e w h=>digits_num l hl l0 (by omega) M hM base e w h,fun base e w h=>digits_num r hr r0 (by omega) D hD base e w h⟩
  all_goals simp [ByteArray.size]
  all_goals omega
 ·refine ⟨?_,fun e h=>pre_minus _ e h,fun e h=>cut_at l r hix e h,?_,?_,?_,fun base e w h=>digits_num l hl l0 (by omega) M hM base e w h,fun base e w h=>digits_num r hr r0 (by omega) D hD base e w h⟩
  all_goals simp [ByteArray.size]
  all_goals omega
theorem cuts1:Cuts ⟨#[48,48,54,47,52]⟩ ⟨#[48,48,54,47,52]⟩ ⟨#[48,48,54]⟩ ⟨#[52]⟩ false 0 6 4:=
 cuts_of false [48,48,54] [52] 6 4 (Or.inr (by decide)) (by decide) (by decide) (by decide) (by decide) (by decide) (by decide) (by decide) (by decide)
theorem cuts2:Cuts ⟨#[45,49,47,50]⟩ ⟨#[49,47,50]⟩ ⟨#[49]⟩ ⟨#[50]⟩ true 1 1 2:=
 cuts_of true [49] [50] 1 2 (Or.inl rfl) (by decide) (by decide) (by decide) (by decide) (by decide) (by decide) (by decide) (by decide)
theorem cuts3:Cuts ⟨#[51,47,48,48]⟩ ⟨#[51,47,48,48]⟩ ⟨#[51]⟩ ⟨#[48,48]⟩ false 0 3 0:=
 cuts_of false [51] [48,48] 3 0 (Or.inr (by decide)) (by decide) (by decide) (by decide) (by decide) (by decide) (by decide) (by decide) (by decide)
theorem r1:mkRat (Rm.sgn false 6) 4 = ⟨3,2,by decide,by decide⟩:=by decide
theorem r2:mkRat (Rm.sgn true 1) 2 = ⟨-1,2,by decide,by decide⟩:=by decide
theorem r3:(⟨3,2,by decide,by decide⟩:Rat)+⟨-1,2,by decide,by decide⟩ = 1:=by rw [Rat.add_def']; decide
theorem not_over_small {m:Nat} (h:m < 4294967296):¬ Over m:=fun o=>by
 have h1:=o.le
 have h2:4294967296 ^ 1≤4294967296 ^ Pl.top:=Nat.pow_le_pow_right (by decide) (by rw [Pl.top_eq]; omega)
 omega
theorem one_cells {w:World} {a:Option Addr} {n:Nat} (h:Num w a n 1):n = 1∧∃ b off,a = some ⟨b,off,none⟩∧b < w.heap.size∧w.cell? ⟨b,off,none⟩ = some (.int .u32 1):=by
 have hn:n = 1:=by
  obtain ⟨xs,hn,hl,hw,hN,hv,hb⟩:=h
  have h1:=Pl.val_le_len hw hN 1
  have h0:xs≠[]:=by rintro rfl; simp [Pl.val] at hv
  have:=List.length_pos_iff.2 h0
  omega
 subst hn
 obtain ⟨_,_,b,off,ha,hlt,hc⟩:=num_one h
 exact ⟨rfl,b,off,ha,hlt,hc⟩
theorem says_one:Says ⟨#[49]⟩ 1:=⟨[1],rfl,fun d hd=>by simp at hd; omega,⟨by simp,Or.inl (by simp)⟩,rfl⟩
theorem ParseOk.fq {w:World} {base:Nat} {en:Ending} {z:Rat} (h:ParseOk w base en z):∃ s a n c a' n' c',en = .returned (.tuple #[.agg #[.bool s,.slice a n c,.slice a' n' c'],.int .i64 0,.int .i64 0])∧Fq w s a n a' n' z:=by
 obtain ⟨s,a,n,c,a',n',c',e,h1,h2,h3⟩:=h
 exact ⟨s,a,n,c,a',n',c',e,h1,h2.num,h3.num⟩
theorem ROk.fq {w:World} {base:Nat} {en:Ending} {z:Rat} (h:ROk w base en z) (h1:¬ Over z.num.natAbs) (h2:¬ Over z.den):∃ s a n c a' n' c',en = .returned (.tuple #[.agg #[.bool s,.slice a n c,.slice a' n' c'],.int .i64 0])∧Fq w s a n a' n' z:=by
 obtain ⟨s,a,n,c,a',n',c',r,e,h|h⟩:=h
 ·obtain ⟨rfl,e1,e2,e3⟩:=h
  exact ⟨s,a,n,c,a',n',c',e,e1,e2.num,e3.num⟩
 ·exact absurd h.2.2 (fun o=>o.elim h1 h2)
theorem ralive_any (w:World):Calls Tryz.prog 4 #[] w fun e w'=>e = .returned (.bool true)∧Below w.heap.size w w':=by
 have hS:=Rs.begin w
 go_enter Tryz.func4,Tryz.ntmps4
 go_wp2_with fail
 refine (parse_rat _ _ _ _ false 0 6 4 _ cuts1 (by omega) (not_over_small (by omega)) (not_over_small (by omega))).mono ?_
 rintro en w1 ⟨hp,hb⟩
 obtain ⟨s1,a1,n1,c1,a2,n2,c2,rfl,hx⟩:=hp.fq
 rw [r1] at hx
 obtain rfl:s1 = false:=hx.neg
 replace hS:=(hS.kept hb).alloc #[.bool false,.slice a1 n1 c1,.slice a2 n2 c2] 29
 replace hx:=hx.alloc (.cells #[.bool false,.slice a1 n1 c1,.slice a2 n2 c2] 29)
 clear hp hb
 go_wp2_with fail
 refine (parse_rat _ _ _ _ true 1 1 2 _ cuts2 (by omega) (not_over_small (by omega)) (not_over_small (by omega))).mono ?_
 rintro en w2 ⟨hp,hb⟩
 obtain ⟨s2,a3,n3,c3,a4,n4,c4,rfl,hy⟩:=hp.fq
 rw [r2] at hy
 obtain rfl:s2 = true:=hy.neg
 replace hS:=(hS.kept hb).alloc #[.bool true,.slice a3 n3 c3,.slice a4 n4 c4] 29
 replace hx:=(hx.kept hb).alloc (.cells #[.bool true,.slice a3 n3 c3,.slice a4 n4 c4] 29)
 replace hy:=hy.alloc (.cells #[.bool true,.slice a3 n3 c3,.slice a4 n4 c4] 29)
 clear hp hb
 obtain ⟨⟨k0,k1,k2,-⟩,⟨k3,k4,k5,-⟩,-⟩:=hS.cells
 go_wp2_with fail
 clear k0 k1 k2 k3 k4 k5
 refine (add_rat false true a1 a2 a3 a4 n1 n2 n3 n4 c1 c2 c3 c4 _ _ _ hx hy).mono ?_
 rintro en w3 ⟨hp,hb⟩
 rw [r3] at hp
 obtain ⟨s3,a5,n5,c5,a6,n6,c6,rfl,hz⟩:=hp.fq (not_over_small (by decide)) (not_over_small (by decide))
 obtain rfl:s3 = false:=hz.neg
 replace hS:=(hS.kept hb).alloc #[.bool false,.slice a5 n5 c5,.slice a6 n6 c6] 29
 replace hx:=(hx.kept hb).alloc (.cells #[.bool false,.slice a5 n5 c5,.slice a6 n6 c6] 29)
 replace hy:=(hy.kept hb).alloc (.cells #[.bool false,.slice a5 n5 c5,.slice a6 n6 c6] 29)
 replace hz:=hz.alloc (.cells #[.bool false,.slice a5 n5 c5,.slice a6 n6 c6] 29)
 clear hp hb
 obtain ⟨⟨k6,k7,k8,-⟩,⟨k0,k1,k2,-⟩,⟨k3,k4,k5,-⟩,-⟩:=hS.cells
 go_wp2_with fail
 clear k0 k1 k2 k3 k4 k5 k6 k7 k8
 refine (text_whole a5 a6 n5 n6 c5 c6 1 _ hz rfl).mono ?_
 rintro en w4 ⟨⟨st,rfl,hst⟩,hb⟩
 obtain rfl:st = ⟨#[49]⟩:=says_eq hst says_one
 replace hS:=hS.kept hb
 replace hx:=hx.kept hb
 replace hy:=hy.kept hb
 clear hb hst hz
 obtain ⟨-,⟨k0,k1,k2,-⟩,⟨k3,k4,k5,-⟩,-⟩:=hS.cells
 go_wp2_with fail
 clear k0 k1 k2 k3 k4 k5
 refine (cmp_apart a1 a2 a3 a4 n1 n2 n3 n4 c1 c2 c3 c4 _ _ _ hx hy).mono ?_
 rintro en w5 ⟨rfl,hb⟩
 replace hS:=hS.kept hb
 replace hy:=hy.kept hb
 clear hb hx
 go_wp2_with fail
 refine (parse_zero _ _ _ _ false 0 3 _ cuts3 (by omega)).mono ?_
 rintro en w6 ⟨rfl,hb⟩
 replace hS:=(hS.kept hb).alloc #[.bool false,.slice none 0 0,.slice none 0 0] 29
 replace hy:=(hy.kept hb).alloc (.cells #[.bool false,.slice none 0 0,.slice none 0 0] 29)
 clear hb
 obtain ⟨-,-,⟨k0,k1,k2,-⟩,-⟩:=hS.cells
 go_wp2_with fail
 clear k0 k1 k2
 refine (floor_below a3 a4 n3 n4 c3 c4 _ _ hy (by decide)).mono ?_
 rintro en w7 ⟨⟨b,k,l,rfl,hm⟩,hb⟩
 have hm':Num w7 b k 1:=hm.num
 have hS2:=hS.kept hb
 clear hS hb hm hy
 obtain ⟨rfl,bb,off,rfl,hlt,hcell⟩:=one_cells (hm'.alloc (.cells #[.slice b k l] 27))
 replace hS2:=hS2.alloc #[.slice (some ⟨bb,off,none⟩) 1 l] 27
 obtain ⟨⟨k0,-⟩,-⟩:=hS2.cells
 go_wp2_with fail
 refine (check_none _).mono ?_
 rintro en w8 ⟨rfl,hb⟩
 replace hS2:=hS2.kept hb
 go_wp2
 go_ret
 exact ⟨rfl,hS2.fr⟩
end Go.Proofs.YtfhmbnnlcjdblaaGreat
