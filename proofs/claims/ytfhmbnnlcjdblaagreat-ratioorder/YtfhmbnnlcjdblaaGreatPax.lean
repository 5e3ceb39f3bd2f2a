/- Of what RatioOrderRow stands on: RSum RCheck ROps RFloor RCmpA RText RFloor2. -/
import Derived.Test.YtfhmbnnlcjdblaaGreatPav
import Derived.Test.YtfhmbnnlcjdblaaGreatPaw
import Derived.Test.YtfhmbnnlcjdblaaGreatPas
import Derived.Test.YtfhmbnnlcjdblaaGreatPak
namespace Go.Proofs.YtfhmbnnlcjdblaaGreat
open Go.RowKit
set_option maxHeartbeats 8000000
set_option maxRecDepth 20000
theorem sum_same (s:Bool) (a1 a2 a3 a4:Option Addr) (n1 n2 n3 n4 c1 c2 c3 c4 m1 d1 m2 d2:Nat) (x y:Rat) (w:World) (h1:Num w a1 n1 m1) (h2:Num w a2 n2 d1) (h3:Num w a3 n3 m2) (h4:Num w a4 n4 d2) (hx:Rm.V x s m1 d1) (hy:Rm.V y s m2 d2) :
  Calls Tryz.prog 32 #[.agg #[.bool s,.slice a1 n1 c1,.slice a2 n2 c2,.bool s,.slice a3 n3 c3,.slice a4 n4 c4]] w fun en w'=>ROk w' w.heap.size en (x+y)∧Below w.heap.size w w':=by
 have hS:=Rs.begin w
 replace hS:=hS.num h1
 replace hS:=hS.num h2
 replace hS:=hS.num h3
 replace hS:=hS.num h4
 replace hS:=hS.alloc #[.bool s,.slice a1 n1 c1,.slice a2 n2 c2,.bool s,.slice a3 n3 c3,.slice a4 n4 c4] 52
 try simp only [World.size_alloc] at hS
 replace hS:=hS.alloc #[.bool false,.slice none 0 0,.slice none 0 0] 29
 try simp only [World.size_alloc] at hS
 replace hS:=hS.work
 try simp only [World.size_alloc] at hS
 obtain ⟨⟨k0_0,k0_1,k0_2,k0_3,k0_4,k0_5,-⟩,-⟩:=hS.cz ⟨w.heap.size,#[.bool s,.slice a1 n1 c1,.slice a2 n2 c2,.bool s,.slice a3 n3 c3,.slice a4 n4 c4],52⟩ (by simp)
 simp only [] at k0_0 k0_1 k0_2 k0_3 k0_4 k0_5
 go_enter Tryz.func32,Tryz.ntmps32
 go_wp2_with fail
 clear k0_0 k0_1 k0_2 k0_3 k0_4 k0_5
 refine (together_any _ s a1 a2 a3 a4 n1 n2 n3 n4 c1 c2 c3 c4 m1 d1 m2 d2 _ hS.wk (hS.nm (a1,n1,m1) (by simp)) (hS.nm (a2,n2,d1) (by simp)) (hS.nm (a3,n3,m2) (by simp)) (hS.nm (a4,n4,d2) (by simp)) hx.pos hy.pos hx.co hy.co).mono ?_
 rintro en w1 ⟨hans,hb9⟩
 obtain ⟨s7,b7,k7,l7,b8,k8,l8,r7,rfl,hq⟩:=hans.ok (Rm.sum_same hx hy)
 clear hans
 have hz1:=hb9.size
 replace hS:=hS.leave hb9 (by omega)
 clear hb9
 have HQ:=hide hq
 clear hq
 simp only [World.size_alloc] at hz1
 obtain ⟨⟨k0_0,k0_1,k0_2,-⟩,z0⟩:=hS.cz ⟨w.heap.size+1,#[.bool false,.slice none 0 0,.slice none 0 0],29⟩ (by simp)
 have z0_0:=z0 0
 have z0_1:=z0 1
 have z0_2:=z0 2
 clear z0
 simp only [] at k0_0 z0_0 k0_1 z0_1 k0_2 z0_2
 go_wp2
 have hq:=unhide HQ
 replace hS:=hS.sub (bs':=[⟨w.heap.size+1,#[.bool false,.slice none 0 0,.slice none 0 0],29⟩]) (ms':=[]) (by intro x hx; rcases List.mem_cons.1 hx with rfl|hx; simp; exact absurd hx List.not_mem_nil) (by intro x hx; exact absurd hx List.not_mem_nil) (fun x hx=>hx)
 replace hq:=hq.put (hS.bx ⟨w.heap.size+1,#[.bool false,.slice none 0 0,.slice none 0 0],29⟩ (by simp)).1 (hS.bx ⟨w.heap.size+1,#[.bool false,.slice none 0 0,.slice none 0 0],29⟩ (by simp)).2.2.1 0 (.bool s7)
 have u1:=hS.cellAt (x:=⟨w.heap.size+1,#[.bool false,.slice none 0 0,.slice none 0 0],29⟩) (by simp) 0 (.bool false) rfl
 have y1:=hS.frozen (x:=⟨w.heap.size+1,#[.bool false,.slice none 0 0,.slice none 0 0],29⟩) (by simp) 0
 simp only [] at u1 y1
 replace hS:=hS.put (x:=⟨w.heap.size+1,#[.bool false,.slice none 0 0,.slice none 0 0],29⟩) (by simp) (by simp only []; omega) 0 (.bool s7) (by simp) [⟨w.heap.size+1,#[.bool s7,.slice none 0 0,.slice none 0 0],29⟩] (by intro y hy; rcases List.mem_cons.1 hy with rfl|hy; exact Or.inl rfl; exact absurd hy List.not_mem_nil)
 replace hq:=hq.put (hS.bx ⟨w.heap.size+1,#[.bool s7,.slice none 0 0,.slice none 0 0],29⟩ (by simp)).1 (hS.bx ⟨w.heap.size+1,#[.bool s7,.slice none 0 0,.slice none 0 0],29⟩ (by simp)).2.2.1 1 (.slice b7 k7 l7)
 have u2:=hS.cellAt (x:=⟨w.heap.size+1,#[.bool s7,.slice none 0 0,.slice none 0 0],29⟩) (by simp) 1 (.slice none 0 0) rfl
 have y2:=hS.frozen (x:=⟨w.heap.size+1,#[.bool s7,.slice none 0 0,.slice none 0 0],29⟩) (by simp) 1
 simp only [] at u2 y2
 replace hS:=hS.put (x:=⟨w.heap.size+1,#[.bool s7,.slice none 0 0,.slice none 0 0],29⟩) (by simp) (by simp only []; omega) 1 (.slice b7 k7 l7) (by simp) [⟨w.heap.size+1,#[.bool s7,.slice b7 k7 l7,.slice none 0 0],29⟩] (by intro y hy; rcases List.mem_cons.1 hy with rfl|hy; exact Or.inl rfl; exact absurd hy List.not_mem_nil)
 replace hq:=hq.put (hS.bx ⟨w.heap.size+1,#[.bool s7,.slice b7 k7 l7,.slice none 0 0],29⟩ (by simp)).1 (hS.bx ⟨w.heap.size+1,#[.bool s7,.slice b7 k7 l7,.slice none 0 0],29⟩ (by simp)).2.2.1 2 (.slice b8 k8 l8)
 have u3:=hS.cellAt (x:=⟨w.heap.size+1,#[.bool s7,.slice b7 k7 l7,.slice none 0 0],29⟩) (by simp) 2 (.slice none 0 0) rfl
 have y3:=hS.frozen (x:=⟨w.heap.size+1,#[.bool s7,.slice b7 k7 l7,.slice none 0 0],29⟩) (by simp) 2
 simp only [] at u3 y3
 replace hS:=hS.put (x:=⟨w.heap.size+1,#[.bool s7,.slice b7 k7 l7,.slice none 0 0],29⟩) (by simp) (by simp only []; omega) 2 (.slice b8 k8 l8) (by simp) [⟨w.heap.size+1,#[.bool s7,.slice b7 k7 l7,.slice b8 k8 l8],29⟩] (by intro y hy; rcases List.mem_cons.1 hy with rfl|hy; exact Or.inl rfl; exact absurd hy List.not_mem_nil)
 exact bodyPost_ret (v:=.tuple #[.agg #[.bool s7,.slice b7 k7 l7,.slice b8 k8 l8],.int .i64 r7]) (by simp [results,Tryz.results32,go_sem,k0_0,k0_1,k0_2]) rfl ⟨⟨_,_,_,_,_,_,_,_,rfl,hq.mono (by first|omega|(simp only [World.size_alloc]; omega)|(simp [World.setCell]; done)|(simp [World.setCell]; omega))⟩,hS.fr⟩
theorem sum_diff (s t:Bool) (a1 a2 a3 a4:Option Addr) (n1 n2 n3 n4 c1 c2 c3 c4 m1 d1 m2 d2:Nat) (x y:Rat) (w:World) (h1:Num w a1 n1 m1) (h2:Num w a2 n2 d1) (h3:Num w a3 n3 m2) (h4:Num w a4 n4 d2) (hx:Rm.V x s m1 d1) (hy:Rm.V y t m2 d2) (hst:(s == t) = false) :
  Calls Tryz.prog 32 #[.agg #[.bool s,.slice a1 n1 c1,.slice a2 n2 c2,.bool t,.slice a3 n3 c3,.slice a4 n4 c4]] w fun en w'=>ROk w' w.heap.size en (x+y)∧Below w.heap.size w w':=by
 have htn:t = !s:=by revert hst; cases s <;> cases t <;> simp
 have hdq:Rm.Q (x+y) (apSign m1 d1 m2 d2 s t && !decide (Rm.dnum m1 d1 m2 d2 = 0)) (Rm.dnum m1 d1 m2 d2) (Rm.sden false m1 d1 m2 d2):=by
  have:=Rm.sum_diff hx (show Rm.V y (!s) m2 d2 by rw [← htn]; exact hy)
  unfold apSign; rw [htn]; exact this
 clear htn
 have hS:=Rs.begin w
 replace hS:=hS.num h1
 replace hS:=hS.num h2
 replace hS:=hS.num h3
 replace hS:=hS.num h4
 replace hS:=hS.alloc #[.bool s,.slice a1 n1 c1,.slice a2 n2 c2,.bool t,.slice a3 n3 c3,.slice a4 n4 c4] 52
 try simp only [World.size_alloc] at hS
 replace hS:=hS.alloc #[.bool false,.slice none 0 0,.slice none 0 0] 29
 try simp only [World.size_alloc] at hS
 replace hS:=hS.work
 try simp only [World.size_alloc] at hS
 obtain ⟨⟨k0_0,k0_1,k0_2,k0_3,k0_4,k0_5,-⟩,-⟩:=hS.cz ⟨w.heap.size,#[.bool s,.slice a1 n1 c1,.slice a2 n2 c2,.bool t,.slice a3 n3 c3,.slice a4 n4 c4],52⟩ (by simp)
 simp only [] at k0_0 k0_1 k0_2 k0_3 k0_4 k0_5
 have hst9:¬ s = t:=by simpa using hst
 go_enter Tryz.func32,Tryz.ntmps32
 go_wp2_with fail
 clear k0_0 k0_1 k0_2 k0_3 k0_4 k0_5
 refine (apart_any _ s t a1 a2 a3 a4 n1 n2 n3 n4 c1 c2 c3 c4 m1 d1 m2 d2 _ hS.wk (hS.nm (a1,n1,m1) (by simp)) (hS.nm (a2,n2,d1) (by simp)) (hS.nm (a3,n3,m2) (by simp)) (hS.nm (a4,n4,d2) (by simp)) hx.pos hy.pos hx.co hy.co hst).mono ?_
 rintro en w1 ⟨hans,hb9⟩
 obtain ⟨s7,b7,k7,l7,b8,k8,l8,r7,rfl,hq⟩:=hans.ok (hdq)
 clear hans
 have hz1:=hb9.size
 replace hS:=hS.leave hb9 (by omega)
 clear hb9
 have HQ:=hide hq
 clear hq
 simp only [World.size_alloc] at hz1
 obtain ⟨⟨k0_0,k0_1,k0_2,-⟩,z0⟩:=hS.cz ⟨w.heap.size+1,#[.bool false,.slice none 0 0,.slice none 0 0],29⟩ (by simp)
 have z0_0:=z0 0
 have z0_1:=z0 1
 have z0_2:=z0 2
 clear z0
 simp only [] at k0_0 z0_0 k0_1 z0_1 k0_2 z0_2
 go_wp2
 have hq:=unhide HQ
 replace hS:=hS.sub (bs':=[⟨w.heap.size+1,#[.bool false,.slice none 0 0,.slice none 0 0],29⟩]) (ms':=[]) (by intro x hx; rcases List.mem_cons.1 hx with rfl|hx; simp; exact absurd hx List.not_mem_nil) (by intro x hx; exact absurd hx List.not_mem_nil) (fun x hx=>hx)
 replace hq:=hq.put (hS.bx ⟨w.heap.size+1,#[.bool false,.slice none 0 0,.slice none 0 0],29⟩ (by simp)).1 (hS.bx ⟨w.heap.size+1,#[.bool false,.slice none 0 0,.slice none 0 0],29⟩ (by simp)).2.2.1 0 (.bool s7)
 have u1:=hS.cellAt (x:=⟨w.heap.size+1,#[.bool false,.slice none 0 0,.slice none 0 0],29⟩) (by simp) 0 (.bool false) rfl
 have y1:=hS.frozen (x:=⟨w.heap.size+1,#[.bool false,.slice none 0 0,.slice none 0 0],29⟩) (by simp) 0
 simp only [] at u1 y1
 replace hS:=hS.put (x:=⟨w.heap.size+1,#[.bool false,.slice none 0 0,.slice none 0 0],29⟩) (by simp) (by simp only []; omega) 0 (.bool s7) (by simp) [⟨w.heap.size+1,#[.bool s7,.slice none 0 0,.slice none 0 0],29⟩] (by intro y hy; rcases List.mem_cons.1 hy with rfl|hy; exact Or.inl rfl; exact absurd hy List.not_mem_nil)
 replace hq:=hq.put (hS.bx ⟨w.heap.size+1,#[.bool s7,.slice none 0 0,.slice none 0 0],29⟩ (by simp)).1 (hS.bx ⟨w.heap.size+1,#[.bool s7,.slice none 0 0,.slice none 0 0],29⟩ (by simp)).2.2.1 1 (.slice b7 k7 l7)
 have u2:=hS.cellAt (x:=⟨w.heap.size+1,#[.bool s7,.slice none 0 0,.slice none 0 0],29⟩) (by simp) 1 (.slice none 0 0) rfl
 have y2:=hS.frozen (x:=⟨w.heap.size+1,#[.bool s7,.slice none 0 0,.slice none 0 0],29⟩) (by simp) 1
 simp only [] at u2 y2
 replace hS:=hS.put (x:=⟨w.heap.size+1,#[.bool s7,.slice none 0 0,.slice none 0 0],29⟩) (by simp) (by simp only []; omega) 1 (.slice b7 k7 l7) (by simp) [⟨w.heap.size+1,#[.bool s7,.slice b7 k7 l7,.slice none 0 0],29⟩] (by intro y hy; rcases List.mem_cons.1 hy with rfl|hy; exact Or.inl rfl; exact absurd hy List.not_mem_nil)
 replace hq:=hq.put (hS.bx ⟨w.heap.size+1,#[.bool s7,.slice b7 k7 l7,.slice none 0 0],29⟩ (by simp)).1 (hS.bx ⟨w.heap.size+1,#[.bool s7,.slice b7 k7 l7,.slice none 0 0],29⟩ (by simp)).2.2.1 2 (.slice b8 k8 l8)
 have u3:=hS.cellAt (x:=⟨w.heap.size+1,#[.bool s7,.slice b7 k7 l7,.slice none 0 0],29⟩) (by simp) 2 (.slice none 0 0) rfl
 have y3:=hS.frozen (x:=⟨w.heap.size+1,#[.bool s7,.slice b7 k7 l7,.slice none 0 0],29⟩) (by simp) 2
 simp only [] at u3 y3
 replace hS:=hS.put (x:=⟨w.heap.size+1,#[.bool s7,.slice b7 k7 l7,.slice none 0 0],29⟩) (by simp) (by simp only []; omega) 2 (.slice b8 k8 l8) (by simp) [⟨w.heap.size+1,#[.bool s7,.slice b7 k7 l7,.slice b8 k8 l8],29⟩] (by intro y hy; rcases List.mem_cons.1 hy with rfl|hy; exact Or.inl rfl; exact absurd hy List.not_mem_nil)
 exact bodyPost_ret (v:=.tuple #[.agg #[.bool s7,.slice b7 k7 l7,.slice b8 k8 l8],.int .i64 r7]) (by simp [results,Tryz.results32,go_sem,k0_0,k0_1,k0_2]) rfl ⟨⟨_,_,_,_,_,_,_,_,rfl,hq.mono (by first|omega|(simp only [World.size_alloc]; omega)|(simp [World.setCell]; done)|(simp [World.setCell]; omega))⟩,hS.fr⟩
theorem sum_any (s t:Bool) (a1 a2 a3 a4:Option Addr) (n1 n2 n3 n4 c1 c2 c3 c4 m1 d1 m2 d2:Nat) (x y:Rat) (w:World) (h1:Num w a1 n1 m1) (h2:Num w a2 n2 d1) (h3:Num w a3 n3 m2) (h4:Num w a4 n4 d2) (hx:Rm.V x s m1 d1) (hy:Rm.V y t m2 d2) :
  Calls Tryz.prog 32 #[.agg #[.bool s,.slice a1 n1 c1,.slice a2 n2 c2,.bool t,.slice a3 n3 c3,.slice a4 n4 c4]] w fun en w'=>ROk w' w.heap.size en (x+y)∧Below w.heap.size w w':=by
 cases hst:s == t
 ·exact sum_diff s t a1 a2 a3 a4 n1 n2 n3 n4 c1 c2 c3 c4 m1 d1 m2 d2 x y w h1 h2 h3 h4 hx hy hst
 ·obtain rfl:s = t:=by simpa using hst
  exact sum_same s a1 a2 a3 a4 n1 n2 n3 n4 c1 c2 c3 c4 m1 d1 m2 d2 x y w h1 h2 h3 h4 hx hy
theorem difference_any (s t:Bool) (a1 a2 a3 a4:Option Addr) (n1 n2 n3 n4 c1 c2 c3 c4 m1 d1 m2 d2:Nat) (x y:Rat) (w:World) (h1:Num w a1 n1 m1) (h2:Num w a2 n2 d1) (h3:Num w a3 n3 m2) (h4:Num w a4 n4 d2) (hx:Rm.V x s m1 d1) (hy:Rm.V y t m2 d2) :
  Calls Tryz.prog 23 #[.agg #[.bool s,.slice a1 n1 c1,.slice a2 n2 c2,.bool t,.slice a3 n3 c3,.slice a4 n4 c4]] w fun en w'=>ROk w' w.heap.size en (x - y)∧Below w.heap.size w w':=by
 have hS:=Rs.begin w
 replace hS:=hS.num h1
 replace hS:=hS.num h2
 replace hS:=hS.num h3
 replace hS:=hS.num h4
 replace hS:=hS.alloc #[.bool s,.slice a1 n1 c1,.slice a2 n2 c2,.bool (!t),.slice a3 n3 c3,.slice a4 n4 c4] 52
 try simp only [World.size_alloc] at hS
 replace hS:=hS.alloc #[.bool false,.slice none 0 0,.slice none 0 0] 29
 try simp only [World.size_alloc] at hS
 go_enter Tryz.func23,Tryz.ntmps23
 go_wp2_with fail
 refine (sum_any s (!t) a1 a2 a3 a4 n1 n2 n3 n4 c1 c2 c3 c4 m1 d1 m2 d2 x (-y) _ (hS.nm (a1,n1,m1) (by simp)) (hS.nm (a2,n2,d1) (by simp)) (hS.nm (a3,n3,m2) (by simp)) (hS.nm (a4,n4,d2) (by simp)) hx hy.minus).mono ?_
 rintro en w1 ⟨⟨s7,b7,k7,l7,b8,k8,l8,r7,rfl,hq⟩,hb9⟩
 have hz1:=hb9.size
 replace hS:=hS.kept hb9
 clear hb9
 have HQ:=hide hq
 clear hq
 simp only [World.size_alloc] at hz1
 rw [show x+-y = x - y from (Rat.sub_eq_add_neg x y).symm] at HQ
 obtain ⟨⟨k0_0,k0_1,k0_2,-⟩,z0⟩:=hS.cz ⟨w.heap.size+1,#[.bool false,.slice none 0 0,.slice none 0 0],29⟩ (by simp)
 have z0_0:=z0 0
 have z0_1:=z0 1
 have z0_2:=z0 2
 clear z0
 simp only [] at k0_0 z0_0 k0_1 z0_1 k0_2 z0_2
 go_wp2
 have hq:=unhide HQ
 replace hS:=hS.sub (bs':=[⟨w.heap.size+1,#[.bool false,.slice none 0 0,.slice none 0 0],29⟩]) (ms':=[]) (by intro x hx; rcases List.mem_cons.1 hx with rfl|hx; simp; exact absurd hx List.not_mem_nil) (by intro x hx; exact absurd hx List.not_mem_nil) (fun x hx=>hx)
 replace hq:=hq.put (hS.bx ⟨w.heap.size+1,#[.bool false,.slice none 0 0,.slice none 0 0],29⟩ (by simp)).1 (hS.bx ⟨w.heap.size+1,#[.bool false,.slice none 0 0,.slice none 0 0],29⟩ (by simp)).2.2.1 0 (.bool s7)
 have u1:=hS.cellAt (x:=⟨w.heap.size+1,#[.bool false,.slice none 0 0,.slice none 0 0],29⟩) (by simp) 0 (.bool false) rfl
 have y1:=hS.frozen (x:=⟨w.heap.size+1,#[.bool false,.slice none 0 0,.slice none 0 0],29⟩) (by simp) 0
 simp only [] at u1 y1
 replace hS:=hS.put (x:=⟨w.heap.size+1,#[.bool false,.slice none 0 0,.slice none 0 0],29⟩) (by simp) (by simp only []; omega) 0 (.bool s7) (by simp) [⟨w.heap.size+1,#[.bool s7,.slice none 0 0,.slice none 0 0],29⟩] (by intro y hy; rcases List.mem_cons.1 hy with rfl|hy; exact Or.inl rfl; exact absurd hy List.not_mem_nil)
 replace hq:=hq.put (hS.bx ⟨w.heap.size+1,#[.bool s7,.slice none 0 0,.slice none 0 0],29⟩ (by simp)).1 (hS.bx ⟨w.heap.size+1,#[.bool s7,.slice none 0 0,.slice none 0 0],29⟩ (by simp)).2.2.1 1 (.slice b7 k7 l7)
 have u2:=hS.cellAt (x:=⟨w.heap.size+1,#[.bool s7,.slice none 0 0,.slice none 0 0],29⟩) (by simp) 1 (.slice none 0 0) rfl
 have y2:=hS.frozen (x:=⟨w.heap.size+1,#[.bool s7,.slice none 0 0,.slice none 0 0],29⟩) (by simp) 1
 simp only [] at u2 y2
 replace hS:=hS.put (x:=⟨w.heap.size+1,#[.bool s7,.slice none 0 0,.slice none 0 0],29⟩) (by simp) (by simp only []; omega) 1 (.slice b7 k7 l7) (by simp) [⟨w.heap.size+1,#[.bool s7,.slice b7 k7 l7,.slice none 0 0],29⟩] (by intro y hy; rcases List.mem_cons.1 hy with rfl|hy; exact Or.inl rfl; exact absurd hy List.not_mem_nil)
 replace hq:=hq.put (hS.bx ⟨w.heap.size+1,#[.bool s7,.slice b7 k7 l7,.slice none 0 0],29⟩ (by simp)).1 (hS.bx ⟨w.heap.size+1,#[.bool s7,.slice b7 k7 l7,.slice none 0 0],29⟩ (by simp)).2.2.1 2 (.slice b8 k8 l8)
 have u3:=hS.cellAt (x:=⟨w.heap.size+1,#[.bool s7,.slice b7 k7 l7,.slice none 0 0],29⟩) (by simp) 2 (.slice none 0 0) rfl
 have y3:=hS.frozen (x:=⟨w.heap.size+1,#[.bool s7,.slice b7 k7 l7,.slice none 0 0],29⟩) (by simp) 2
 simp only [] at u3 y3
 replace hS:=hS.put (x:=⟨w.heap.size+1,#[.bool s7,.slice b7 k7 l7,.slice none 0 0],29⟩) (by simp) (by simp only []; omega) 2 (.slice b8 k8 l8) (by simp) [⟨w.heap.size+1,#[.bool s7,.slice b7 k7 l7,.slice b8 k8 l8],29⟩] (by intro y hy; rcases List.mem_cons.1 hy with rfl|hy; exact Or.inl rfl; exact absurd hy List.not_mem_nil)
 exact bodyPost_ret (v:=.tuple #[.agg #[.bool s7,.slice b7 k7 l7,.slice b8 k8 l8],.int .i64 r7]) (by simp [results,Tryz.results23,go_sem,k0_0,k0_1,k0_2]) rfl ⟨⟨_,_,_,_,_,_,_,_,rfl,hq.mono (by first|omega|(simp only [World.size_alloc]; omega)|(simp [World.setCell]; done)|(simp [World.setCell]; omega))⟩,hS.fr⟩
theorem Fq.dn {w:World} {s:Bool} {a a':Option Addr} {n n':Nat} {x:Rat} (h:Fq w s a n a' n' x):decide (n' = 0) = false:=by
 rw [decide_eq_false_iff_not]; intro e; have:=h.den.zero.1 e; have:=x.den_nz; omega
theorem Fq.nn {w:World} {a a':Option Addr} {n n':Nat} {x:Rat} (h:Fq w true a n a' n' x):decide (n = 0) = false:=by
 rw [decide_eq_false_iff_not]; intro e; have:=h.num.zero.1 e; have h2:=h.neg; simp at h2; omega
theorem Fq.gcd {w:World} {s:Bool} {a a':Option Addr} {n n':Nat} {x:Rat} (h:Fq w s a n a' n' x):Nat.gcd x.num.natAbs x.den = 1:=h.q.co
theorem check_false (a a':Option Addr) (n n' c c':Nat) (x:Rat) (w:World) (h:Fq w false a n a' n' x) :
  Calls Tryz.prog 16 #[.agg #[.bool false,.slice a n c,.slice a' n' c']] w fun en w'=>en = .returned (.int .i64 0)∧Below w.heap.size w w':=by
 have hS:=Rs.begin w
 replace hS:=hS.num h.num
 replace hS:=hS.num h.den
 replace hS:=hS.alloc #[.bool false,.slice a n c,.slice a' n' c'] 29
 try simp only [World.size_alloc] at hS
 go_enter Tryz.func16,Tryz.ntmps16
 go_wp2_with fail
 refine (nought_any a' n' c' _).mono ?_
 rintro en w1 ⟨rfl,hb9⟩
 have hz1:=hb9.size
 replace hS:=hS.kept hb9
 clear hb9
 simp only [World.size_alloc] at hz1
 rw [h.dn]
 obtain ⟨⟨k0_0,k0_1,k0_2,-⟩,z0⟩:=hS.cz ⟨w.heap.size,#[.bool false,.slice a n c,.slice a' n' c'],29⟩ (by simp)
 have z0_0:=z0 0
 have z0_1:=z0 1
 have z0_2:=z0 2
 clear z0
 simp only [] at k0_0 z0_0 k0_1 z0_1 k0_2 z0_2
 go_wp2_with fail
 clear k0_0 z0_0 k0_1 z0_1 k0_2 z0_2
 refine (gcd_any a a' n n' c c' _ _ _ (hS.nm (a,n,x.num.natAbs) (by simp)) (hS.nm (a',n',x.den) (by simp))).mono ?_
 rintro en w8 ⟨⟨A8,N8,C8,rfl,hm8⟩,hb8⟩
 rw [h.gcd] at hm8
 replace hS:=((hS.kept hb8).own hm8 hS.size).alloc #[.slice A8 N8 C8] 27
 clear hm8 hb8
 have kz:=hS.cellAt (x:=⟨w8.heap.size,#[.slice A8 N8 C8],27⟩) (by simp) 0 (.slice A8 N8 C8) rfl
 simp only [] at kz
 go_wp2_with fail
 refine (isOne_any A8 N8 C8 1 _ (hS.ow (A8,N8,C8,1) (by simp)).num).mono ?_
 rintro en w9 ⟨rfl,hb9⟩
 rw [decide_eq_true rfl]
 replace hS:=hS.kept hb9
 go_wp2
 go_ret
 exact ⟨rfl,hS.fr⟩
theorem check_true (a a':Option Addr) (n n' c c':Nat) (x:Rat) (w:World) (h:Fq w true a n a' n' x) :
  Calls Tryz.prog 16 #[.agg #[.bool true,.slice a n c,.slice a' n' c']] w fun en w'=>en = .returned (.int .i64 0)∧Below w.heap.size w w':=by
 have hS:=Rs.begin w
 replace hS:=hS.num h.num
 replace hS:=hS.num h.den
 replace hS:=hS.alloc #[.bool true,.slice a n c,.slice a' n' c'] 29
 try simp only [World.size_alloc] at hS
 go_enter Tryz.func16,Tryz.ntmps16
 go_wp2_with fail
 refine (nought_any a' n' c' _).mono ?_
 rintro en w1 ⟨rfl,hb9⟩
 have hz1:=hb9.size
 replace hS:=hS.kept hb9
 clear hb9
 simp only [World.size_alloc] at hz1
 rw [h.dn]
 obtain ⟨⟨k0_0,k0_1,k0_2,-⟩,z0⟩:=hS.cz ⟨w.heap.size,#[.bool true,.slice a n c,.slice a' n' c'],29⟩ (by simp)
 have z0_0:=z0 0
 have z0_1:=z0 1
 have z0_2:=z0 2
 clear z0
 simp only [] at k0_0 z0_0 k0_1 z0_1 k0_2 z0_2
 go_wp2_with fail
 clear k0_0 z0_0 k0_1 z0_1 k0_2 z0_2
 refine (nought_any a n c _).mono ?_
 rintro en w2 ⟨rfl,hb9⟩
 have hz2:=hb9.size
 replace hS:=hS.kept hb9
 clear hb9
 rw [h.nn]
 obtain ⟨⟨k0_0,k0_1,k0_2,-⟩,z0⟩:=hS.cz ⟨w.heap.size,#[.bool true,.slice a n c,.slice a' n' c'],29⟩ (by simp)
 have z0_0:=z0 0
 have z0_1:=z0 1
 have z0_2:=z0 2
 clear z0
 simp only [] at k0_0 z0_0 k0_1 z0_1 k0_2 z0_2
 go_wp2_with fail
 clear k0_0 z0_0 k0_1 z0_1 k0_2 z0_2
 refine (gcd_any a a' n n' c c' _ _ _ (hS.nm (a,n,x.num.natAbs) (by simp)) (hS.nm (a',n',x.den) (by simp))).mono ?_
 rintro en w8 ⟨⟨A8,N8,C8,rfl,hm8⟩,hb8⟩
 rw [h.gcd] at hm8
 replace hS:=((hS.kept hb8).own hm8 hS.size).alloc #[.slice A8 N8 C8] 27
 clear hm8 hb8
 have kz:=hS.cellAt (x:=⟨w8.heap.size,#[.slice A8 N8 C8],27⟩) (by simp) 0 (.slice A8 N8 C8) rfl
 simp only [] at kz
 go_wp2_with fail
 refine (isOne_any A8 N8 C8 1 _ (hS.ow (A8,N8,C8,1) (by simp)).num).mono ?_
 rintro en w9 ⟨rfl,hb9⟩
 rw [decide_eq_true rfl]
 replace hS:=hS.kept hb9
 go_wp2
 go_ret
 exact ⟨rfl,hS.fr⟩
theorem check_rat (s:Bool) (a a':Option Addr) (n n' c c':Nat) (x:Rat) (w:World) (h:Fq w s a n a' n' x) :
  Calls Tryz.prog 16 #[.agg #[.bool s,.slice a n c,.slice a' n' c']] w fun en w'=>en = .returned (.int .i64 0)∧Below w.heap.size w w':=by
 cases s
 ·exact check_false a a' n n' c c' x w h
 ·exact check_true a a' n n' c c' x w h
theorem bothCheck_rat (s t:Bool) (a1 a2 a3 a4:Option Addr) (n1 n2 n3 n4 c1 c2 c3 c4:Nat) (x y:Rat) (w:World) (hx:Fq w s a1 n1 a2 n2 x) (hy:Fq w t a3 n3 a4 n4 y) :
  Calls Tryz.prog 18 #[.agg #[.bool s,.slice a1 n1 c1,.slice a2 n2 c2,.bool t,.slice a3 n3 c3,.slice a4 n4 c4]] w fun en w'=>en = .returned (.int .i64 0)∧Below w.heap.size w w':=by
 have hS:=(Rs.begin w).alloc #[.bool s,.slice a1 n1 c1,.slice a2 n2 c2,.bool t,.slice a3 n3 c3,.slice a4 n4 c4] 52
 go_enter Tryz.func18,Tryz.ntmps18
 go_wp2_with fail
 refine (check_rat s a1 a2 n1 n2 c1 c2 x _ (hx.kept hS.fr)).mono ?_
 rintro en w1 ⟨rfl,hb1⟩
 replace hS:=hS.kept hb1
 obtain ⟨⟨k0,k1,k2,k3,k4,k5,-⟩,-⟩:=hS.cells
 go_wp2_with fail
 refine (check_rat t a3 a4 n3 n4 c3 c4 y _ (hy.kept hS.fr)).mono ?_
 rintro en w2 ⟨rfl,hb2⟩
 replace hS:=hS.kept hb2
 go_wp2
 go_ret
 exact ⟨rfl,hS.fr⟩
theorem Fq.v {w:World} {s:Bool} {a a':Option Addr} {n n':Nat} {x:Rat} (h:Fq w s a n a' n' x):Rm.V x s x.num.natAbs x.den:=h.q.v
theorem checked_add (s t:Bool) (a1 a2 a3 a4:Option Addr) (n1 n2 n3 n4 c1 c2 c3 c4:Nat) (x y:Rat) (w:World) (hx:Fq w s a1 n1 a2 n2 x) (hy:Fq w t a3 n3 a4 n4 y) :
  Calls Tryz.prog 22 #[.agg #[.bool s,.slice a1 n1 c1,.slice a2 n2 c2,.bool t,.slice a3 n3 c3,.slice a4 n4 c4],.func (.func 32) #[.agg #[.bool s,.slice a1 n1 c1,.slice a2 n2 c2,.bool t,.slice a3 n3 c3,.slice a4 n4 c4]] #[]] w fun en w'=>ROk w' w.heap.size en (x+y)∧Below w.heap.size w w':=by
 have hS:=Rs.begin w
 replace hS:=hS.alloc #[.bool s,.slice a1 n1 c1,.slice a2 n2 c2,.bool t,.slice a3 n3 c3,.slice a4 n4 c4] 52
 try simp only [World.size_alloc] at hS
 replace hS:=hS.alloc #[.bool false,.slice none 0 0,.slice none 0 0] 29
 try simp only [World.size_alloc] at hS
 go_enter Tryz.func22,Tryz.ntmps22
 go_wp2_with fail
 refine (bothCheck_rat s t a1 a2 a3 a4 n1 n2 n3 n4 c1 c2 c3 c4 x y _ (hx.kept hS.fr) (hy.kept hS.fr)).mono ?_
 rintro en w1 ⟨rfl,hb1⟩
 have hz1:=hb1.size
 replace hS:=hS.kept hb1
 clear hb1
 simp only [World.size_alloc] at hz1
 obtain ⟨⟨k0_0,k0_1,k0_2,-⟩,z0⟩:=hS.cz ⟨w.heap.size+1,#[.bool false,.slice none 0 0,.slice none 0 0],29⟩ (by simp)
 have z0_0:=z0 0
 have z0_1:=z0 1
 have z0_2:=z0 2
 clear z0
 simp only [] at k0_0 z0_0 k0_1 z0_1 k0_2 z0_2
 go_wp2_with fail
 clear k0_0 z0_0 k0_1 z0_1 k0_2 z0_2
 refine (sum_any s t a1 a2 a3 a4 n1 n2 n3 n4 c1 c2 c3 c4 _ _ _ _ x y _ (hx.kept hS.fr).num (hx.kept hS.fr).den (hy.kept hS.fr).num (hy.kept hS.fr).den hx.v hy.v).mono ?_
 rintro en w2 ⟨⟨s7,b7,k7,l7,b8,k8,l8,r7,rfl,hq⟩,hb9⟩
 have hz2:=hb9.size
 replace hS:=hS.kept hb9
 clear hb9
 have HQ:=hide hq
 clear hq
 obtain ⟨⟨k0_0,k0_1,k0_2,-⟩,z0⟩:=hS.cz ⟨w.heap.size+1,#[.bool false,.slice none 0 0,.slice none 0 0],29⟩ (by simp)
 have z0_0:=z0 0
 have z0_1:=z0 1
 have z0_2:=z0 2
 clear z0
 simp only [] at k0_0 z0_0 k0_1 z0_1 k0_2 z0_2
 go_wp2
 have hq:=unhide HQ
 replace hS:=hS.sub (bs':=[⟨w.heap.size+1,#[.bool false,.slice none 0 0,.slice none 0 0],29⟩]) (ms':=[]) (by intro x hx; rcases List.mem_cons.1 hx with rfl|hx; simp; exact absurd hx List.not_mem_nil) (by intro x hx; exact absurd hx List.not_mem_nil) (fun x hx=>hx)
 replace hq:=hq.put (hS.bx ⟨w.heap.size+1,#[.bool false,.slice none 0 0,.slice none 0 0],29⟩ (by simp)).1 (hS.bx ⟨w.heap.size+1,#[.bool false,.slice none 0 0,.slice none 0 0],29⟩ (by simp)).2.2.1 0 (.bool s7)
 have u1:=hS.cellAt (x:=⟨w.heap.size+1,#[.bool false,.slice none 0 0,.slice none 0 0],29⟩) (by simp) 0 (.bool false) rfl
 have y1:=hS.frozen (x:=⟨w.heap.size+1,#[.bool false,.slice none 0 0,.slice none 0 0],29⟩) (by simp) 0
 simp only [] at u1 y1
 replace hS:=hS.put (x:=⟨w.heap.size+1,#[.bool false,.slice none 0 0,.slice none 0 0],29⟩) (by simp) (by simp only []; omega) 0 (.bool s7) (by simp) [⟨w.heap.size+1,#[.bool s7,.slice none 0 0,.slice none 0 0],29⟩] (by intro y hy; rcases List.mem_cons.1 hy with rfl|hy; exact Or.inl rfl; exact absurd hy List.not_mem_nil)
 replace hq:=hq.put (hS.bx ⟨w.heap.size+1,#[.bool s7,.slice none 0 0,.slice none 0 0],29⟩ (by simp)).1 (hS.bx ⟨w.heap.size+1,#[.bool s7,.slice none 0 0,.slice none 0 0],29⟩ (by simp)).2.2.1 1 (.slice b7 k7 l7)
 have u2:=hS.cellAt (x:=⟨w.heap.size+1,#[.bool s7,.slice none 0 0,.slice none 0 0],29⟩) (by simp) 1 (.slice none 0 0) rfl
 have y2:=hS.frozen (x:=⟨w.heap.size+1,#[.bool s7,.slice none 0 0,.slice none 0 0],29⟩) (by simp) 1
 simp only [] at u2 y2
 replace hS:=hS.put (x:=⟨w.heap.size+1,#[.bool s7,.slice none 0 0,.slice none 0 0],29⟩) (by simp) (by simp only []; omega) 1 (.slice b7 k7 l7) (by simp) [⟨w.heap.size+1,#[.bool s7,.slice b7 k7 l7,.slice none 0 0],29⟩] (by intro y hy; rcases List.mem_cons.1 hy with rfl|hy; exact Or.inl rfl; exact absurd hy List.not_mem_nil)
 replace hq:=hq.put (hS.bx ⟨w.heap.size+1,#[.bool s7,.slice b7 k7 l7,.slice none 0 0],29⟩ (by simp)).1 (hS.bx ⟨w.heap.size+1,#[.bool s7,.slice b7 k7 l7,.slice none 0 0],29⟩ (by simp)).2.2.1 2 (.slice b8 k8 l8)
 have u3:=hS.cellAt (x:=⟨w.heap.size+1,#[.bool s7,.slice b7 k7 l7,.slice none 0 0],29⟩) (by simp) 2 (.slice none 0 0) rfl
 have y3:=hS.frozen (x:=⟨w.heap.size+1,#[.bool s7,.slice b7 k7 l7,.slice none 0 0],29⟩) (by simp) 2
 simp only [] at u3 y3
 replace hS:=hS.put (x:=⟨w.heap.size+1,#[.bool s7,.slice b7 k7 l7,.slice none 0 0],29⟩) (by simp) (by simp only []; omega) 2 (.slice b8 k8 l8) (by simp) [⟨w.heap.size+1,#[.bool s7,.slice b7 k7 l7,.slice b8 k8 l8],29⟩] (by intro y hy; rcases List.mem_cons.1 hy with rfl|hy; exact Or.inl rfl; exact absurd hy List.not_mem_nil)
 exact bodyPost_ret (v:=.tuple #[.agg #[.bool s7,.slice b7 k7 l7,.slice b8 k8 l8],.int .i64 r7]) (by simp [results,Tryz.results22,go_sem,k0_0,k0_1,k0_2]) rfl ⟨⟨_,_,_,_,_,_,_,_,rfl,hq.mono (by first|omega|(simp only [World.size_alloc]; omega)|(simp [World.setCell]; done)|(simp [World.setCell]; omega))⟩,hS.fr⟩
theorem add_rat (s t:Bool) (a1 a2 a3 a4:Option Addr) (n1 n2 n3 n4 c1 c2 c3 c4:Nat) (x y:Rat) (w:World) (hx:Fq w s a1 n1 a2 n2 x) (hy:Fq w t a3 n3 a4 n4 y) :
  Calls Tryz.prog 10 #[.agg #[.bool s,.slice a1 n1 c1,.slice a2 n2 c2],.agg #[.bool t,.slice a3 n3 c3,.slice a4 n4 c4]] w fun en w'=>ROk w' w.heap.size en (x+y)∧Below w.heap.size w w':=by
 have hS:=Rs.begin w
 replace hS:=hS.alloc #[.bool s,.slice a1 n1 c1,.slice a2 n2 c2] 29
 try simp only [World.size_alloc] at hS
 replace hS:=hS.alloc #[.bool t,.slice a3 n3 c3,.slice a4 n4 c4] 29
 try simp only [World.size_alloc] at hS
 replace hS:=hS.alloc #[.bool false,.slice none 0 0,.slice none 0 0] 29
 try simp only [World.size_alloc] at hS
 replace hS:=hS.alloc #[.bool s,.slice a1 n1 c1,.slice a2 n2 c2,.bool t,.slice a3 n3 c3,.slice a4 n4 c4] 52
 try simp only [World.size_alloc] at hS
 go_enter Tryz.func10,Tryz.ntmps10
 go_wp2_with fail
 refine (checked_add s t a1 a2 a3 a4 n1 n2 n3 n4 c1 c2 c3 c4 x y _ (hx.kept hS.fr) (hy.kept hS.fr)).mono ?_
 rintro en w1 ⟨⟨s7,b7,k7,l7,b8,k8,l8,r7,rfl,hq⟩,hb9⟩
 have hz1:=hb9.size
 replace hS:=hS.kept hb9
 clear hb9
 have HQ:=hide hq
 clear hq
 simp only [World.size_alloc] at hz1
 obtain ⟨⟨k0_0,k0_1,k0_2,-⟩,z0⟩:=hS.cz ⟨w.heap.size+1+1,#[.bool false,.slice none 0 0,.slice none 0 0],29⟩ (by simp)
 have z0_0:=z0 0
 have z0_1:=z0 1
 have z0_2:=z0 2
 clear z0
 simp only [] at k0_0 z0_0 k0_1 z0_1 k0_2 z0_2
 go_wp2
 have hq:=unhide HQ
 replace hS:=hS.sub (bs':=[⟨w.heap.size+1+1,#[.bool false,.slice none 0 0,.slice none 0 0],29⟩]) (ms':=[]) (by intro x hx; rcases List.mem_cons.1 hx with rfl|hx; simp; exact absurd hx List.not_mem_nil) (by intro x hx; exact absurd hx List.not_mem_nil) (fun x hx=>hx)
 replace hq:=hq.put (hS.bx ⟨w.heap.size+1+1,#[.bool false,.slice none 0 0,.slice none 0 0],29⟩ (by simp)).1 (hS.bx ⟨w.heap.size+1+1,#[.bool false,.slice none 0 0,.slice none 0 0],29⟩ (by simp)).2.2.1 0 (.bool s7)
 have u1:=hS.cellAt (x:=⟨w.heap.size+1+1,#[.bool false,.slice none 0 0,.slice none 0 0],29⟩) (by simp) 0 (.bool false) rfl
 have y1:=hS.frozen (x:=⟨w.heap.size+1+1,#[.bool false,.slice none 0 0,.slice none 0 0],29⟩) (by simp) 0
 simp only [] at u1 y1
 replace hS:=hS.put (x:=⟨w.heap.size+1+1,#[.bool false,.slice none 0 0,.slice none 0 0],29⟩) (by simp) (by simp only []; omega) 0 (.bool s7) (by simp) [⟨w.heap.size+1+1,#[.bool s7,.slice none 0 0,.slice none 0 0],29⟩] (by intro y hy; rcases List.mem_cons.1 hy with rfl|hy; exact Or.inl rfl; exact absurd hy List.not_mem_nil)
 replace hq:=hq.put (hS.bx ⟨w.heap.size+1+1,#[.bool s7,.slice none 0 0,.slice none 0 0],29⟩ (by simp)).1 (hS.bx ⟨w.heap.size+1+1,#[.bool s7,.slice none 0 0,.slice none 0 0],29⟩ (by simp)).2.2.1 1 (.slice b7 k7 l7)
 have u2:=hS.cellAt (x:=⟨w.heap.size+1+1,#[.bool s7,.slice none 0 0,.slice none 0 0],29⟩) (by simp) 1 (.slice none 0 0) rfl
 have y2:=hS.frozen (x:=⟨w.heap.size+1+1,#[.bool s7,.slice none 0 0,.slice none 0 0],29⟩) (by simp) 1
 simp only [] at u2 y2
 replace hS:=hS.put (x:=⟨w.heap.size+1+1,#[.bool s7,.slice none 0 0,.slice none 0 0],29⟩) (by simp) (by simp only []; omega) 1 (.slice b7 k7 l7) (by simp) [⟨w.heap.size+1+1,#[.bool s7,.slice b7 k7 l7,.slice none 0 0],29⟩] (by intro y hy; rcases List.mem_cons.1 hy with rfl|hy; exact Or.inl rfl; exact absurd hy List.not_mem_nil)
 replace hq:=hq.put (hS.bx ⟨w.heap.size+1+1,#[.bool s7,.slice b7 k7 l7,.slice none 0 0],29⟩ (by simp)).1 (hS.bx ⟨w.heap.size+1+1,#[.bool s7,.slice b7 k7 l7,.slice none 0 0],29⟩ (by simp)).2.2.1 2 (.slice b8 k8 l8)
 have u3:=hS.cellAt (x:=⟨w.heap.size+1+1,#[.bool s7,.slice b7 k7 l7,.slice none 0 0],29⟩) (by simp) 2 (.slice none 0 0) rfl
 have y3:=hS.frozen (x:=⟨w.heap.size+1+1,#[.bool s7,.slice b7 k7 l7,.slice none 0 0],29⟩) (by simp) 2
 simp only [] at u3 y3
 replace hS:=hS.put (x:=⟨w.heap.size+1+1,#[.bool s7,.slice b7 k7 l7,.slice none 0 0],29⟩) (by simp) (by simp only []; omega) 2 (.slice b8 k8 l8) (by simp) [⟨w.heap.size+1+1,#[.bool s7,.slice b7 k7 l7,.slice b8 k8 l8],29⟩] (by intro y hy; rcases List.mem_cons.1 hy with rfl|hy; exact Or.inl rfl; exact absurd hy List.not_mem_nil)
 exact bodyPost_ret (v:=.tuple #[.agg #[.bool s7,.slice b7 k7 l7,.slice b8 k8 l8],.int .i64 r7]) (by simp [results,Tryz.results10,go_sem,k0_0,k0_1,k0_2]) rfl ⟨⟨_,_,_,_,_,_,_,_,rfl,hq.mono (by first|omega|(simp only [World.size_alloc]; omega)|(simp [World.setCell]; done)|(simp [World.setCell]; omega))⟩,hS.fr⟩
theorem checked_sub (s t:Bool) (a1 a2 a3 a4:Option Addr) (n1 n2 n3 n4 c1 c2 c3 c4:Nat) (x y:Rat) (w:World) (hx:Fq w s a1 n1 a2 n2 x) (hy:Fq w t a3 n3 a4 n4 y) :
  Calls Tryz.prog 22 #[.agg #[.bool s,.slice a1 n1 c1,.slice a2 n2 c2,.bool t,.slice a3 n3 c3,.slice a4 n4 c4],.func (.func 23) #[.agg #[.bool s,.slice a1 n1 c1,.slice a2 n2 c2,.bool t,.slice a3 n3 c3,.slice a4 n4 c4]] #[]] w fun en w'=>ROk w' w.heap.size en (x - y)∧Below w.heap.size w w':=by
 have hS:=Rs.begin w
 replace hS:=hS.alloc #[.bool s,.slice a1 n1 c1,.slice a2 n2 c2,.bool t,.slice a3 n3 c3,.slice a4 n4 c4] 52
 try simp only [World.size_alloc] at hS
 replace hS:=hS.alloc #[.bool false,.slice none 0 0,.slice none 0 0] 29
 try simp only [World.size_alloc] at hS
 go_enter Tryz.func22,Tryz.ntmps22
 go_wp2_with fail
 refine (bothCheck_rat s t a1 a2 a3 a4 n1 n2 n3 n4 c1 c2 c3 c4 x y _ (hx.kept hS.fr) (hy.kept hS.fr)).mono ?_
 rintro en w1 ⟨rfl,hb1⟩
 have hz1:=hb1.size
 replace hS:=hS.kept hb1
 clear hb1
 simp only [World.size_alloc] at hz1
 obtain ⟨⟨k0_0,k0_1,k0_2,-⟩,z0⟩:=hS.cz ⟨w.heap.size+1,#[.bool false,.slice none 0 0,.slice none 0 0],29⟩ (by simp)
 have z0_0:=z0 0
 have z0_1:=z0 1
 have z0_2:=z0 2
 clear z0
 simp only [] at k0_0 z0_0 k0_1 z0_1 k0_2 z0_2
 go_wp2_with fail
 clear k0_0 z0_0 k0_1 z0_1 k0_2 z0_2
 refine (difference_any s t a1 a2 a3 a4 n1 n2 n3 n4 c1 c2 c3 c4 _ _ _ _ x y _ (hx.kept hS.fr).num (hx.kept hS.fr).den (hy.kept hS.fr).num (hy.kept hS.fr).den hx.v hy.v).mono ?_
 rintro en w2 ⟨⟨s7,b7,k7,l7,b8,k8,l8,r7,rfl,hq⟩,hb9⟩
 have hz2:=hb9.size
 replace hS:=hS.kept hb9
 clear hb9
 have HQ:=hide hq
 clear hq
 obtain ⟨⟨k0_0,k0_1,k0_2,-⟩,z0⟩:=hS.cz ⟨w.heap.size+1,#[.bool false,.slice none 0 0,.slice none 0 0],29⟩ (by simp)
 have z0_0:=z0 0
 have z0_1:=z0 1
 have z0_2:=z0 2
 clear z0
 simp only [] at k0_0 z0_0 k0_1 z0_1 k0_2 z0_2
 go_wp2
 have hq:=unhide HQ
 replace hS:=hS.sub (bs':=[⟨w.heap.size+1,#[.bool false,.slice none 0 0,.slice none 0 0],29⟩]) (ms':=[]) (by intro x hx; rcases List.mem_cons.1 hx with rfl|hx; simp; exact absurd hx List.not_mem_nil) (by intro x hx; exact absurd hx List.not_mem_nil) (fun x hx=>hx)
 replace hq:=hq.put (hS.bx ⟨w.heap.size+1,#[.bool false,.slice none 0 0,.slice none 0 0],29⟩ (by simp)).1 (hS.bx ⟨w.heap.size+1,#[.bool false,.slice none 0 0,.slice none 0 0],29⟩ (by simp)).2.2.1 0 (.bool s7)
 have u1:=hS.cellAt (x:=⟨w.heap.size+1,#[.bool false,.slice none 0 0,.slice none 0 0],29⟩) (by simp) 0 (.bool false) rfl
 have y1:=hS.frozen (x:=⟨w.heap.size+1,#[.bool false,.slice none 0 0,.slice none 0 0],29⟩) (by simp) 0
 simp only [] at u1 y1
 replace hS:=hS.put (x:=⟨w.heap.size+1,#[.bool false,.slice none 0 0,.slice none 0 0],29⟩) (by simp) (by simp only []; omega) 0 (.bool s7) (by simp) [⟨w.heap.size+1,#[.bool s7,.slice none 0 0,.slice none 0 0],29⟩] (by intro y hy; rcases List.mem_cons.1 hy with rfl|hy; exact Or.inl rfl; exact absurd hy List.not_mem_nil)
 replace hq:=hq.put (hS.bx ⟨w.heap.size+1,#[.bool s7,.slice none 0 0,.slice none 0 0],29⟩ (by simp)).1 (hS.bx ⟨w.heap.size+1,#[.bool s7,.slice none 0 0,.slice none 0 0],29⟩ (by simp)).2.2.1 1 (.slice b7 k7 l7)
 have u2:=hS.cellAt (x:=⟨w.heap.size+1,#[.bool s7,.slice none 0 0,.slice none 0 0],29⟩) (by simp) 1 (.slice none 0 0) rfl
 have y2:=hS.frozen (x:=⟨w.heap.size+1,#[.bool s7,.slice none 0 0,.slice none 0 0],29⟩) (by simp) 1
 simp only [] at u2 y2
 replace hS:=hS.put (x:=⟨w.heap.size+1,#[.bool s7,.slice none 0 0,.slice none 0 0],29⟩) (by simp) (by simp only []; omega) 1 (.slice b7 k7 l7) (by simp) [⟨w.heap.size+1,#[.bool s7,.slice b7 k7 l7,.slice none 0 0],29⟩] (by intro y hy; rcases List.mem_cons.1 hy with rfl|hy; exact Or.inl rfl; exact absurd hy List.not_mem_nil)
 replace hq:=hq.put (hS.bx ⟨w.heap.size+1,#[.bool s7,.slice b7 k7 l7,.slice none 0 0],29⟩ (by simp)).1 (hS.bx ⟨w.heap.size+1,#[.bool s7,.slice b7 k7 l7,.slice none 0 0],29⟩ (by simp)).2.2.1 2 (.slice b8 k8 l8)
 have u3:=hS.cellAt (x:=⟨w.heap.size+1,#[.bool s7,.slice b7 k7 l7,.slice none 0 0],29⟩) (by simp) 2 (.slice none 0 0) rfl
 have y3:=hS.frozen (x:=⟨w.heap.size+1,#[.bool s7,.slice b7 k7 l7,.slice none 0 0],29⟩) (by simp) 2
 simp only [] at u3 y3
 replace hS:=hS.put (x:=⟨w.heap.size+1,#[.bool s7,.slice b7 k7 l7,.slice none 0 0],29⟩) (by simp) (by simp only []; omega) 2 (.slice b8 k8 l8) (by simp) [⟨w.heap.size+1,#[.bool s7,.slice b7 k7 l7,.slice b8 k8 l8],29⟩] (by intro y hy; rcases List.mem_cons.1 hy with rfl|hy; exact Or.inl rfl; exact absurd hy List.not_mem_nil)
 exact bodyPost_ret (v:=.tuple #[.agg #[.bool s7,.slice b7 k7 l7,.slice b8 k8 l8],.int .i64 r7]) (by simp [results,Tryz.results22,go_sem,k0_0,k0_1,k0_2]) rfl ⟨⟨_,_,_,_,_,_,_,_,rfl,hq.mono (by first|omega|(simp only [World.size_alloc]; omega)|(simp [World.setCell]; done)|(simp [World.setCell]; omega))⟩,hS.fr⟩
theorem sub_rat (s t:Bool) (a1 a2 a3 a4:Option Addr) (n1 n2 n3 n4 c1 c2 c3 c4:Nat) (x y:Rat) (w:World) (hx:Fq w s a1 n1 a2 n2 x) (hy:Fq w t a3 n3 a4 n4 y) :
  Calls Tryz.prog 7 #[.agg #[.bool s,.slice a1 n1 c1,.slice a2 n2 c2],.agg #[.bool t,.slice a3 n3 c3,.slice a4 n4 c4]] w fun en w'=>ROk w' w.heap.size en (x - y)∧Below w.heap.size w w':=by
 have hS:=Rs.begin w
 replace hS:=hS.alloc #[.bool s,.slice a1 n1 c1,.slice a2 n2 c2] 29
 try simp only [World.size_alloc] at hS
 replace hS:=hS.alloc #[.bool t,.slice a3 n3 c3,.slice a4 n4 c4] 29
 try simp only [World.size_alloc] at hS
 replace hS:=hS.alloc #[.bool false,.slice none 0 0,.slice none 0 0] 29
 try simp only [World.size_alloc] at hS
 replace hS:=hS.alloc #[.bool s,.slice a1 n1 c1,.slice a2 n2 c2,.bool t,.slice a3 n3 c3,.slice a4 n4 c4] 52
 try simp only [World.size_alloc] at hS
 go_enter Tryz.func7,Tryz.ntmps7
 go_wp2_with fail
 refine (checked_sub s t a1 a2 a3 a4 n1 n2 n3 n4 c1 c2 c3 c4 x y _ (hx.kept hS.fr) (hy.kept hS.fr)).mono ?_
 rintro en w1 ⟨⟨s7,b7,k7,l7,b8,k8,l8,r7,rfl,hq⟩,hb9⟩
 have hz1:=hb9.size
 replace hS:=hS.kept hb9
 clear hb9
 have HQ:=hide hq
 clear hq
 simp only [World.size_alloc] at hz1
 obtain ⟨⟨k0_0,k0_1,k0_2,-⟩,z0⟩:=hS.cz ⟨w.heap.size+1+1,#[.bool false,.slice none 0 0,.slice none 0 0],29⟩ (by simp)
 have z0_0:=z0 0
 have z0_1:=z0 1
 have z0_2:=z0 2
 clear z0
 simp only [] at k0_0 z0_0 k0_1 z0_1 k0_2 z0_2
 go_wp2
 have hq:=unhide HQ
 replace hS:=hS.sub (bs':=[⟨w.heap.size+1+1,#[.bool false,.slice none 0 0,.slice none 0 0],29⟩]) (ms':=[]) (by intro x hx; rcases List.mem_cons.1 hx with rfl|hx; simp; exact absurd hx List.not_mem_nil) (by intro x hx; exact absurd hx List.not_mem_nil) (fun x hx=>hx)
 replace hq:=hq.put (hS.bx ⟨w.heap.size+1+1,#[.bool false,.slice none 0 0,.slice none 0 0],29⟩ (by simp)).1 (hS.bx ⟨w.heap.size+1+1,#[.bool false,.slice none 0 0,.slice none 0 0],29⟩ (by simp)).2.2.1 0 (.bool s7)
 have u1:=hS.cellAt (x:=⟨w.heap.size+1+1,#[.bool false,.slice none 0 0,.slice none 0 0],29⟩) (by simp) 0 (.bool false) rfl
 have y1:=hS.frozen (x:=⟨w.heap.size+1+1,#[.bool false,.slice none 0 0,.slice none 0 0],29⟩) (by simp) 0
 simp only [] at u1 y1
 replace hS:=hS.put (x:=⟨w.heap.size+1+1,#[.bool false,.slice none 0 0,.slice none 0 0],29⟩) (by simp) (by simp only []; omega) 0 (.bool s7) (by simp) [⟨w.heap.size+1+1,#[.bool s7,.slice none 0 0,.slice none 0 0],29⟩] (by intro y hy; rcases List.mem_cons.1 hy with rfl|hy; exact Or.inl rfl; exact absurd hy List.not_mem_nil)
 replace hq:=hq.put (hS.bx ⟨w.heap.size+1+1,#[.bool s7,.slice none 0 0,.slice none 0 0],29⟩ (by simp)).1 (hS.bx ⟨w.heap.size+1+1,#[.bool s7,.slice none 0 0,.slice none 0 0],29⟩ (by simp)).2.2.1 1 (.slice b7 k7 l7)
 have u2:=hS.cellAt (x:=⟨w.heap.size+1+1,#[.bool s7,.slice none 0 0,.slice none 0 0],29⟩) (by simp) 1 (.slice none 0 0) rfl
 have y2:=hS.frozen (x:=⟨w.heap.size+1+1,#[.bool s7,.slice none 0 0,.slice none 0 0],29⟩) (by simp) 1
 simp only [] at u2 y2
 replace hS:=hS.put (x:=⟨w.heap.size+1+1,#[.bool s7,.slice none 0 0,.slice none 0 0],29⟩) (by simp) (by simp only []; omega) 1 (.slice b7 k7 l7) (by simp) [⟨w.heap.size+1+1,#[.bool s7,.slice b7 k7 l7,.slice none 0 0],29⟩] (by intro y hy; rcases List.mem_cons.1 hy with rfl|hy; exact Or.inl rfl; exact absurd hy List.not_mem_nil)
 replace hq:=hq.put (hS.bx ⟨w.heap.size+1+1,#[.bool s7,.slice b7 k7 l7,.slice none 0 0],29⟩ (by simp)).1 (hS.bx ⟨w.heap.size+1+1,#[.bool s7,.slice b7 k7 l7,.slice none 0 0],29⟩ (by simp)).2.2.1 2 (.slice b8 k8 l8)
 have u3:=hS.cellAt (x:=⟨w.heap.size+1+1,#[.bool s7,.slice b7 k7 l7,.slice none 0 0],29⟩) (by simp) 2 (.slice none 0 0) rfl
 have y3:=hS.frozen (x:=⟨w.heap.size+1+1,#[.bool s7,.slice b7 k7 l7,.slice none 0 0],29⟩) (by simp) 2
 simp only [] at u3 y3
 replace hS:=hS.put (x:=⟨w.heap.size+1+1,#[.bool s7,.slice b7 k7 l7,.slice none 0 0],29⟩) (by simp) (by simp only []; omega) 2 (.slice b8 k8 l8) (by simp) [⟨w.heap.size+1+1,#[.bool s7,.slice b7 k7 l7,.slice b8 k8 l8],29⟩] (by intro y hy; rcases List.mem_cons.1 hy with rfl|hy; exact Or.inl rfl; exact absurd hy List.not_mem_nil)
 exact bodyPost_ret (v:=.tuple #[.agg #[.bool s7,.slice b7 k7 l7,.slice b8 k8 l8],.int .i64 r7]) (by simp [results,Tryz.results7,go_sem,k0_0,k0_1,k0_2]) rfl ⟨⟨_,_,_,_,_,_,_,_,rfl,hq.mono (by first|omega|(simp only [World.size_alloc]; omega)|(simp [World.setCell]; done)|(simp [World.setCell]; omega))⟩,hS.fr⟩
theorem wd_ok {e':Int} {Q R m d:Nat} (q:Wd 0 e' Q R m d) (hd:0 < d):e' = 0∧Q = m / d∧R = m % d:=by
 by_cases h:e' = 0
 ·obtain ⟨_,a,b,_⟩:=q.ok h; exact ⟨h,a,b⟩
 ·have:=q.zero rfl h; omega
theorem floor_up {e1 e2:Int} {Q R m d N:Nat} (hd:0 < d) (q1:Wd 0 e1 Q R m d) (q2:Wz e1 e2 N (Q+1) (Over (Q+1))) (hm:¬ Over m) (hr:m % d≠0):e2 = 0∧N = m / d+1:=by
 obtain ⟨h1,h2,h3⟩:=wd_ok q1 hd
 by_cases h:e2 = 0
 ·exact ⟨h,by rw [(q2.ok h).2,h2]⟩
 ·exfalso
  have o:=(q2.many h1 h).2
  rw [h2] at o
  refine hm (o.mono ?_)
  have e:=Nat.div_add_mod m d
  have hd2:2≤d:=by
   rcases Nat.lt_or_ge d 2 with hx|hx
   ·have:d = 1:=by omega
    subst this; omega
   ·exact hx
  have:m / d * 2≤d * (m / d):=by rw [Nat.mul_comm]; exact Nat.mul_le_mul_right _ hd2
  omega
structure FlrTX4S where
 (b0 b1 b2 b3:Bool)
 (v0 v1 v2:Value)
 (A1:Option Addr)
 (N1 C1:Nat)
 (A2:Option Addr)
 (N2 C2:Nat)
 (M2:Nat)
 (E2:Int)
 bs9:List En
 os9:Os
structure FlrTX4R (w:World) (a a':Option Addr) (n n' c c':Nat) (x:Rat) (w1:World) (yA2:Option Addr) (yN2 yC2 yM2:Nat) (yP2:Option Addr) (yG2 yR2:Nat) (yE2:Int) (w2:World) (S9:Nat) (b0 b1 b2 b3:Bool) (v0 v1 v2:Value) (A1:Option Addr) (N1 C1:Nat) (A2:Option Addr) (N2 C2:Nat) (M2:Nat) (E2:Int) (bs9:List En) (os9:Os) (w':World):Prop where
 hc:Rc w S9 [⟨w.heap.size,#[.bool true,.slice a n c,.slice a' n' c'],29⟩] [(a',n',x.den),(a,n,x.num.natAbs)] [(yA2,yN2,yC2,yM2)] (some ((w1.heap.size),(cond b2 E2 yE2))) bs9 os9 w'
 f0:b0 = true→v0 = .agg #[.slice yA2 yN2 yC2]
 f1:b1 = true→v1 = .agg #[.slice A1 N1 C1]∧(A1,N1,C1,1)∈os9
 f2:b2 = true→v2 = .agg #[.slice A2 N2 C2]∧(A2,N2,C2,M2)∈os9∧Wz yE2 E2 M2 (yM2+1) (Over (yM2+1))
 o0_0:b3 = false→⟨w.heap.size+1,#[.slice yA2 yN2 yC2],27⟩∈bs9
 o0_1:b3 = true→⟨w.heap.size+1,#[.slice A2 N2 C2],27⟩∈bs9
 g3_0:b3 = true→b0 = true
 g2_1:b2 = true→b1 = true
 g3_2:b3 = true→b2 = true
 g3_1:b3 = true→b1 = true
def FlrTX4I (w:World) (a a':Option Addr) (n n' c c':Nat) (x:Rat) (w1:World) (yA2:Option Addr) (yN2 yC2 yM2:Nat) (yP2:Option Addr) (yG2 yR2:Nat) (yE2:Int) (w2:World) (S9:Nat) (l:Array Bool) (act:Act) (w':World):FlrTX4S→Prop
 | ⟨b0,b1,b2,b3,v0,v1,v2,A1,N1,C1,A2,N2,C2,M2,E2,bs9,os9⟩=>l = #[b0,b1,b2,b3]∧act = { tmps:=#[.agg #[.bool true,.slice a n c,.slice a' n' c'],.pointer (some ⟨w.heap.size,0,none⟩),.bool false,.pointer (some ⟨w.heap.size+1,0,none⟩),.int .i64 0,.int .i64 0,.pointer (some ⟨w1.heap.size,0,none⟩),.pointer (some ⟨w2.heap.size,0,none⟩),.agg #[.bool true,.slice a n c,.slice a' n' c'],.int .i64 0,.int .i64 0,.bool false,undef,undef,.tuple #[.agg #[.slice yA2 yN2 yC2],.agg #[.slice yP2 yG2 yR2]],.pointer (some ⟨w.heap.size,1,none⟩),.agg #[.slice a n c],.pointer (some ⟨w.heap.size,2,none⟩),.agg #[.slice a' n' c'],.tuple #[.agg #[.slice yA2 yN2 yC2],.agg #[.slice yP2 yG2 yR2]],.agg #[.slice yA2 yN2 yC2],.agg #[.slice yP2 yG2 yR2],.pointer (some ⟨w.heap.size,0,none⟩),.bool true,.bool true,.agg #[.slice yP2 yG2 yR2],.bool false,.bool true,.bool true,v0,v1,v2,undef,undef,undef,undef,undef,undef],defers:=[] }∧FlrTX4R w a a' n n' c c' x w1 yA2 yN2 yC2 yM2 yP2 yG2 yR2 yE2 w2 S9 b0 b1 b2 b3 v0 v1 v2 A1 N1 C1 A2 N2 C2 M2 E2 bs9 os9 w'
theorem floor_below (a a':Option Addr) (n n' c c':Nat) (x:Rat) (w:World) (h:Fq w true a n a' n' x) (hrest:x.num.natAbs % x.den≠0) :
  Calls Tryz.prog 8 #[.agg #[.bool true,.slice a n c,.slice a' n' c']] w fun en w'=>(∃ b k l,en = .returned (.tuple #[.bool true,.agg #[.slice b k l],.int .i64 0])∧Mine w' w.heap.size b k l (x.num.natAbs / x.den+1))∧Below w.heap.size w w':=by
 have hS:=Rs.begin w
 replace hS:=hS.num h.num
 replace hS:=hS.num h.den
 replace hS:=hS.alloc #[.bool true,.slice a n c,.slice a' n' c'] 29
 try simp only [World.size_alloc] at hS
 replace hS:=hS.alloc #[.slice none 0 0] 27
 try simp only [World.size_alloc] at hS
 go_enter Tryz.func8,Tryz.ntmps8
 go_wp2_with fail
 refine (check_rat true a a' n n' c c' x _ ⟨h.neg,(hS.nm (a,n,x.num.natAbs) (by simp)),(hS.nm (a',n',x.den) (by simp))⟩).mono ?_
 rintro en w1 ⟨rfl,hb1⟩
 have hz1:=hb1.size
 replace hS:=hS.kept hb1
 clear hb1
 simp only [World.size_alloc] at hz1
 obtain ⟨⟨k0_0,k0_1,k0_2,-⟩,z0⟩:=hS.cz ⟨w.heap.size,#[.bool true,.slice a n c,.slice a' n' c'],29⟩ (by simp)
 have z0_0:=z0 0
 have z0_1:=z0 1
 have z0_2:=z0 2
 clear z0
 simp only [] at k0_0 z0_0 k0_1 z0_1 k0_2 z0_2
 replace hS:=hS.work
 try simp only [World.size_alloc] at hS
 have kw0:=hS.cellAt (x:=⟨w.heap.size,#[.bool true,.slice a n c,.slice a' n' c'],29⟩) (by simp) 0 (.bool true) rfl
 have kw1:=hS.cellAt (x:=⟨w.heap.size,#[.bool true,.slice a n c,.slice a' n' c'],29⟩) (by simp) 1 (.slice a n c) rfl
 have kw2:=hS.cellAt (x:=⟨w.heap.size,#[.bool true,.slice a n c,.slice a' n' c'],29⟩) (by simp) 2 (.slice a' n' c') rfl
 simp only [] at kw0 kw1 kw2
 go_wp2_with fail
 clear k0_0 z0_0 k0_1 z0_1 k0_2 z0_2
 clear kw0 kw1 kw2
 refine (W_div hS c c' (hS.nm (a,n,x.num.natAbs) (by simp)) (hS.nm (a',n',x.den) (by simp))).mono ?_
 clear hS; rintro en w2 ⟨yA2,yN2,yC2,yM2,yP2,yG2,yR2,yL2,yE2,rfl,hS,q2,hz2⟩
 have Q2:=hide q2
 clear q2
 simp only [World.size_alloc] at hz2
 replace hS:=hS.alloc #[.slice none 0 0] 27
 try simp only [World.size_alloc] at hS
 have u1:=hS.cellAt (x:=⟨w.heap.size+1,#[.slice none 0 0],27⟩) (by simp) 0 (.slice none 0 0) rfl
 have y1:=hS.frozen (x:=⟨w.heap.size+1,#[.slice none 0 0],27⟩) (by simp) 0
 simp only [] at u1 y1
 replace hS:=hS.put (x:=⟨w.heap.size+1,#[.slice none 0 0],27⟩) (by simp) (by simp only []; omega) 0 (.slice yA2 yN2 yC2) (by simp) [⟨w.heap.size+1,#[.slice yA2 yN2 yC2],27⟩,⟨w2.heap.size,#[.slice none 0 0],27⟩,⟨w.heap.size,#[.bool true,.slice a n c,.slice a' n' c'],29⟩] (by intro y hy; rcases List.mem_cons.1 hy with rfl|hy; exact Or.inl rfl; rcases List.mem_cons.1 hy with rfl|hy; exact Or.inr ⟨by simp,by simp only []; omega⟩; rcases List.mem_cons.1 hy with rfl|hy; exact Or.inr ⟨by simp,by simp only []; omega⟩; exact absurd hy List.not_mem_nil)
 have u2:=hS.cellAt (x:=⟨w2.heap.size,#[.slice none 0 0],27⟩) (by simp) 0 (.slice none 0 0) rfl
 have y2:=hS.frozen (x:=⟨w2.heap.size,#[.slice none 0 0],27⟩) (by simp) 0
 simp only [] at u2 y2
 replace hS:=hS.put (x:=⟨w2.heap.size,#[.slice none 0 0],27⟩) (by simp) (by simp only []; omega) 0 (.slice yP2 yG2 yR2) (by simp) [⟨w2.heap.size,#[.slice yP2 yG2 yR2],27⟩,⟨w.heap.size+1,#[.slice yA2 yN2 yC2],27⟩,⟨w.heap.size,#[.bool true,.slice a n c,.slice a' n' c'],29⟩] (by intro y hy; rcases List.mem_cons.1 hy with rfl|hy; exact Or.inl rfl; rcases List.mem_cons.1 hy with rfl|hy; exact Or.inr ⟨by simp,by simp only []; omega⟩; rcases List.mem_cons.1 hy with rfl|hy; exact Or.inr ⟨by simp,by simp only []; omega⟩; exact absurd hy List.not_mem_nil)
 obtain ⟨⟨k0_0,-⟩,-⟩:=hS.cz ⟨w2.heap.size,#[.slice yP2 yG2 yR2],27⟩ (by simp)
 obtain ⟨⟨k1_0,k1_1,k1_2,-⟩,-⟩:=hS.cz ⟨w.heap.size,#[.bool true,.slice a n c,.slice a' n' c'],29⟩ (by simp)
 simp only [] at k0_0 k1_0 k1_1 k1_2
 go_wp2_with fail
 clear k0_0 k1_0 k1_1 k1_2
 refine (nought_any yP2 yG2 yR2 _).mono ?_
 rintro en w3 ⟨rfl,hb9⟩
 have hz3:=hb9.size
 replace hS:=hS.kept hb9
 clear hb9
 replace hz3:w2.heap.size+1≤w3.heap.size:=by simpa [World.setCell] using hz3
 have hno:decide (yG2 = 0) = false:=by rw [decide_eq_false_iff_not]; intro e; have e2:=(hS.ow (yP2,yG2,yR2,yL2) (by simp)).num.zero.1 e; have e3:=wd_ok (unhide Q2) h.q.pos; simp only [] at e2; exact hrest (by omega)
 rw [hno]
 clear hno
 go_wp2_with fail
 replace hS:=hS.sub (bs':=[⟨w.heap.size+1,#[.slice yA2 yN2 yC2],27⟩,⟨w.heap.size,#[.bool true,.slice a n c,.slice a' n' c'],29⟩]) (ms':=[(a',n',x.den),(a,n,x.num.natAbs)]) (os':=[(yA2,yN2,yC2,yM2)]) (by intro x hx; rcases List.mem_cons.1 hx with rfl|hx; (simp); rcases List.mem_cons.1 hx with rfl|hx; (simp); exact absurd hx List.not_mem_nil) (by intro x hx; rcases List.mem_cons.1 hx with rfl|hx; (simp); rcases List.mem_cons.1 hx with rfl|hx; (simp); exact absurd hx List.not_mem_nil) (by intro x hx; rcases List.mem_cons.1 hx with rfl|hx; (simp); exact absurd hx List.not_mem_nil)
 refine wp_region_any (by kernel_rfl) ?_
 change wpAny _ _ _ _ _ _ _ (World.drew _)
 have hS9:=hS.drew
 have hsW9:(World.drew w3).heap.size = w3.heap.size:=by first|rfl|simp
 generalize World.drew w3 = Wd at hS9 hsW9 ⊢
 obtain ⟨S9,hS9z⟩:∃ x,x = Wd.heap.size:=⟨_,rfl⟩
 have hC9:=Rc.start (bs:=[⟨w.heap.size,#[.bool true,.slice a n c,.slice a' n' c'],29⟩]) hS9 (by simp)
 rw [← hS9z] at hC9
 have hP9_0:=hS9.bx ⟨w.heap.size+1,#[.slice yA2 yN2 yC2],27⟩ (by simp)
 have hP9_0:=block_lt hP9_0.1
 rw [← hS9z] at hP9_0
 simp only [] at hP9_0
 refine wpAny_inv (fun l act w'=>∃ σ,FlrTX4I w a a' n n' c c' x w1 yA2 yN2 yC2 yM2 yP2 yG2 yR2 yE2 w2 S9 l act w' σ) ?_ ?_ _ _ _ _ ?_ ?_
 ·intro l act w' i9 hI9 hi9 hl9
  have hin9:i9 < 4:=by
   by_cases h:i9 < 4
   ·exact h
   ·obtain ⟨⟨⟩,rfl,_⟩:=hI9
    rw [Array.getElem?_eq_none (by simp; omega)] at hl9; cases hl9
  have hcase:i9 = 0∨i9 = 1∨i9 = 2∨i9 = 3:=by omega
  clear hin9
  obtain ⟨⟨b0,b1,b2,b3,v0,v1,v2,A1,N1,C1,A2,N2,C2,M2,E2,bs9,os9⟩,rfl,rfl,hR⟩:=hI9
  rcases hcase with rfl|rfl|rfl|rfl
  ·obtain rfl:b0 = false:=by simpa using hl9
   have hc:=hR.hc
   obtain rfl:b3 = false:=by cases h:b3; rfl; exact Bool.noConfusion (hR.g3_0 h)
   have c9_0:=hc.st.cellAt (hR.o0_0 rfl) 0 (.slice yA2 yN2 yC2) rfl
   simp only [] at c9_0
   refine wpOp_step rfl fun K hK=>?_
   go_simp
   exact hK _ _ ⟨⟨_,_,_,_,_,_,_,A1,N1,C1,A2,N2,C2,M2,E2,_,_⟩,rfl,rfl,{ hR with hc:=hc,f0:=(fun _=>rfl),g3_0:=(fun _=>rfl) }⟩
  ·obtain rfl:b1 = false:=by simpa using hl9
   have hc:=hR.hc
   have HR:=hide hR
   clear hR
   refine wpOp_step rfl fun K hK=>?_
   go_simp
   go_wp2_with fail
   refine (W_of hc.st 1 (by omega)).mono ?_
   rintro en w9 ⟨a9,n9,c9,rfl,hs9,hz9⟩
   have hR:=unhide HR
   exact hK _ _ ⟨⟨_,_,_,_,_,_,_,_,_,_,A2,N2,C2,M2,E2,_,_⟩,rfl,rfl,{ hR with hc:=(hc.call hs9 hz9 (fun y hy=>List.mem_cons_of_mem _ hy)),f1:=(fun _=>⟨rfl,List.mem_cons_self ..⟩),f2:=(fun h=>Bool.noConfusion (hR.g2_1 h)),o0_1:=(fun h=>Bool.noConfusion (hR.g3_1 h)),g2_1:=(fun _=>rfl),g3_1:=(fun _=>rfl) }⟩
  ·obtain rfl:b2 = false:=by simpa using hl9
   obtain ⟨o9,ho9,hd9⟩:=(mem_ready.1 hi9).2
   cases ho9
   have e0:b0 = true:=hd9 ⟨0,.data⟩ (by simp) rfl
   have e1:b1 = true:=hd9 ⟨1,.data⟩ (by simp) rfl
   subst e0 e1
   have h9:=hR.f0 rfl
   subst h9
   have q1:=hR.f1 rfl
   obtain ⟨h9,q1m⟩:=q1
   subst h9
   have hc:=hR.hc
   simp only [cond_false] at hc
   have HR:=hide hR
   clear hR
   refine wpOp_step rfl fun K hK=>?_
   go_simp
   go_wp2_with fail
   refine (W_add hc.st yC2 C1 (hc.st.ow (yA2,yN2,yC2,yM2) (hc.oso _ (by simp))).num (hc.st.ow _ q1m).num).mono ?_
   rintro en w9 ⟨a9,n9,c9,m9,e9,rfl,hs9,hz,hz9⟩
   have hR:=unhide HR
   exact hK _ _ ⟨⟨_,_,_,_,_,_,_,A1,N1,C1,_,_,_,_,_,_,_⟩,rfl,rfl,{ hR with hc:=(hc.call hs9 hz9 (fun y hy=>List.mem_cons_of_mem _ hy)),f1:=(fun h=>⟨(hR.f1 h).1,List.mem_cons_of_mem _ (hR.f1 h).2⟩),f2:=(fun _=>⟨rfl,List.mem_cons_self ..,hz⟩),o0_1:=(fun h=>Bool.noConfusion (hR.g3_2 h)),g2_1:=(fun _=>rfl),g3_2:=(fun _=>rfl) }⟩
  ·obtain rfl:b3 = false:=by simpa using hl9
   obtain ⟨o9,ho9,hd9⟩:=(mem_ready.1 hi9).2
   cases ho9
   have e2:b2 = true:=hd9 ⟨2,.data⟩ (by simp) rfl
   have e0:b0 = true:=hd9 ⟨0,.phase⟩ (by simp) rfl
   subst e2 e0
   have q2:=hR.f2 rfl
   obtain ⟨h9,q2m,q2z⟩:=q2
   subst h9
   have h9:=hR.f0 rfl
   subst h9
   have hc:=hR.hc
   have hm9:=hR.o0_0 rfl
   have fz9_0:=hc.st.frozen hm9 0
   have cz9_0:=hc.st.cellAt hm9 0 (.slice yA2 yN2 yC2) rfl
   simp only [] at fz9_0 cz9_0
   have hn9:∀ x,x∈([⟨w.heap.size,#[.bool true,.slice a n c,.slice a' n' c'],29⟩]:List En)→x.b≠w.heap.size+1:=by intro x hx; rcases List.mem_cons.1 hx with rfl|hx; (simp only []; omega);  exact absurd hx List.not_mem_nil
   have hw9:w.heap.size≤w.heap.size+1:=by omega
   refine wpOp_step rfl fun K hK=>?_
   go_simp
   exact hK _ _ ⟨⟨_,_,_,_,_,_,_,A1,N1,C1,A2,N2,C2,M2,E2,_,_⟩,rfl,rfl,{ hR with hc:=(hc.store hm9 hw9 hn9 0 (.slice A2 N2 C2) (by simp)),o0_0:=(fun h=>Bool.noConfusion h),o0_1:=(fun _=>List.mem_cons_self ..),g3_0:=(fun _=>rfl),g3_2:=(fun _=>rfl),g3_1:=(fun _=>hR.g2_1 rfl) }⟩
 ·rintro l act Wq4 ⟨⟨b0,b1,b2,b3,v0,v1,v2,x4_A1,x4_N1,x4_C1,x4_A2,x4_N2,x4_C2,x4_M2,x4_E2,bs9,os9⟩,rfl,rfl,hR⟩ hr9
  obtain ⟨hc,f0,f1,f2,o0_0,o0_1,g3_0,g2_1,g3_2,g3_1⟩:=hR
  have eall:=all_done hr9 (by kernel_rfl) rfl
  obtain rfl:b0 = true:=eall 0 (by decide)
  obtain rfl:b1 = true:=eall 1 (by decide)
  obtain rfl:b2 = true:=eall 2 (by decide)
  obtain rfl:b3 = true:=eall 3 (by decide)
  clear hr9 eall
  have h9:=f0 rfl
  subst h9
  obtain ⟨h9,q1m⟩:=f1 rfl
  subst h9
  obtain ⟨h9,q2m,qx4_2⟩:=f2 rfl
  subst h9
  simp only [cond_true] at hc
  have hbs9:∀ x,x∈([⟨w.heap.size+1,#[.slice x4_A2 x4_N2 x4_C2],27⟩,⟨w.heap.size,#[.bool true,.slice a n c,.slice a' n' c'],29⟩]:List En)→x∈bs9:=by
   intro x hx
   rcases List.mem_cons.1 hx with rfl|hx
   ·exact (o0_1 rfl)
   rcases List.mem_cons.1 hx with rfl|hx
   ·exact (hc.old _ (by simp)).1
   exact absurd hx List.not_mem_nil
  have hos9:∀ x,x∈([(x4_A1,x4_N1,x4_C1,1),(x4_A2,x4_N2,x4_C2,x4_M2),(yA2,yN2,yC2,yM2)]:Os)→x∈os9:=by
   intro x hx
   rcases List.mem_cons.1 hx with rfl|hx
   ·exact q1m
   rcases List.mem_cons.1 hx with rfl|hx
   ·exact q2m
   rcases List.mem_cons.1 hx with rfl|hx
   ·exact hc.oso _ (by simp)
   exact absurd hx List.not_mem_nil
  have hS:=hc.st.sub hbs9 (fun x hx=>hx) hos9
  have hsz9:=hc.sz
  rw [hS9z,hsW9] at hsz9
  clear hbs9 hos9 hc f0 f1 f2 o0_0 o0_1 g3_0 g2_1 g3_2 g3_1
  clear q1m q2m
  have hz4:=hsz9
  clear hsz9 hS9z hS9 hC9 hsW9
  have Qx4_2:=hide qx4_2
  clear qx4_2
  go_wp2_with fail
  obtain ⟨⟨k0_0,-⟩,z0⟩:=hS.cz ⟨w.heap.size+1,#[.slice x4_A2 x4_N2 x4_C2],27⟩ (by simp)
  have z0_0:=z0 0
  clear z0
  obtain ⟨⟨k1_0,k1_1,k1_2,-⟩,z1⟩:=hS.cz ⟨w.heap.size,#[.bool true,.slice a n c,.slice a' n' c'],29⟩ (by simp)
  have z1_0:=z1 0
  have z1_1:=z1 1
  have z1_2:=z1 2
  clear z1
  simp only [] at k0_0 z0_0 k1_0 z1_0 k1_1 z1_1 k1_2 z1_2
  have hcw:=Wk.cell hS.wk
  go_region
  go_wp2
  have hend:=floor_up h.q.pos (unhide Q2) (unhide Qx4_2) (fun o=>absurd o.le (Nat.not_le.2 h.num.lt)) hrest
  obtain ⟨z1,z2⟩:=hend
  have u3:=hS.cellAt (x:=⟨w.heap.size+1,#[.slice x4_A2 x4_N2 x4_C2],27⟩) (by simp) 0 (.slice x4_A2 x4_N2 x4_C2) rfl
  have y3:=hS.frozen (x:=⟨w.heap.size+1,#[.slice x4_A2 x4_N2 x4_C2],27⟩) (by simp) 0
  simp only [] at u3 y3
  replace hS:=hS.put (x:=⟨w.heap.size+1,#[.slice x4_A2 x4_N2 x4_C2],27⟩) (by simp) (by simp only []; omega) 0 (.slice x4_A2 x4_N2 x4_C2) (by simp) [⟨w.heap.size+1,#[.slice x4_A2 x4_N2 x4_C2],27⟩,⟨w.heap.size,#[.bool true,.slice a n c,.slice a' n' c'],29⟩] (by intro y hy; rcases List.mem_cons.1 hy with rfl|hy; exact Or.inl rfl; rcases List.mem_cons.1 hy with rfl|hy; exact Or.inr ⟨by simp,by simp only []; omega⟩; exact absurd hy List.not_mem_nil)
  replace hS:=hS.drew
  rw [z1]
  have hbel:=But.gr (B:=w.heap.size) (gr_refl w) hS.fr (by omega) (Nat.le_refl _)
  have o1:=hS.ow (x4_A2,x4_N2,x4_C2,x4_M2) (by simp)
  simp only [] at o1
  rw [z2] at o1
  exact bodyPost_ret (v:=.tuple #[.bool true,.agg #[.slice x4_A2 x4_N2 x4_C2],.int .i64 0]) (by simp [results,Tryz.results8,go_sem,k0_0]) rfl ⟨⟨_,_,_,rfl,o1⟩,hbel⟩
 ·simp
 ·exact ⟨⟨false,false,false,false,undef,undef,undef,none,0,0,none,0,0,0,0,_,_⟩,rfl,rfl,⟨hC9,nb,nb,nb,(fun _=>by simp),nb,nb,nb,nb,nb⟩⟩
theorem sign_true (w:World):Calls Tryz.prog 20 #[.bool true] w fun en w'=>en = .returned (.int .i64 1)∧Below w.heap.size w w':=by
 go_enter Tryz.func20,Tryz.ntmps20
 go_wp2
 go_ret
 exact ⟨rfl,gr_refl _⟩
theorem shape_any (s:Bool) (a:Option Addr) (n c:Nat) (a':Option Addr) (n' c':Nat) (w:World) :
  Calls Tryz.prog 40 #[.agg #[.bool s,.slice a n c,.slice a' n' c']] w fun en w'=>en = .returned (.agg #[.bool s,.int .i64 (n:Nat),.int .i64 (n':Nat)])∧Below w.heap.size w w':=by
 go_enter Tryz.func40,Tryz.ntmps40
 go_wp2
 exact bodyPost_ret (v:=.agg #[.bool s,.int .i64 (n:Nat),.int .i64 (n':Nat)]) (by simp [results,Tryz.results40,go_sem]) rfl ⟨rfl,gr_trans (gr_alloc _ _) (gr_alloc _ _)⟩
structure Sam1S where
 (b0 b1 b2 b3 b4 b5 b6 b7 b8 b9 b10 b11 b12 b13 b14 b15 b16 b17 b18 b19 b20 b21 b22 b23 b24 b25 b26 b27 b28 b29:Bool)
 (v0 v1 v2 v3 v4 v5 v6 v7 v17 v18 v28 v29:Value)
 bs9:List En
 os9:Os
structure Sam1R (w:World) (a1 a2 a3 a4:Option Addr) (n1 n2 n3 n4 c1 c2 c3 c4:Nat) (S9:Nat) (b0 b1 b2 b3 b4 b5 b6 b7 b8 b9 b10 b11 b12 b13 b14 b15 b16 b17 b18 b19 b20 b21 b22 b23 b24 b25 b26 b27 b28 b29:Bool) (v0 v1 v2 v3 v4 v5 v6 v7 v17 v18 v28 v29:Value)  (bs9:List En) (os9:Os) (w':World):Prop where
 hc:Rc w S9 [⟨w.heap.size,#[.bool false,.slice a1 n1 c1,.slice a2 n2 c2,.bool true,.slice a3 n3 c3,.slice a4 n4 c4],52⟩] [] [] none bs9 os9 w'
 f0:b0 = true→v0 = .pointer (some ⟨w.heap.size,0,none⟩)
 f1:b1 = true→v1 = .agg #[.bool false,.slice a1 n1 c1,.slice a2 n2 c2]
 f2:b2 = true→v2 = .agg #[.bool false,.int .i64 (n1:Nat),.int .i64 (n2:Nat)]
 f3:b3 = true→v3 = .pointer (some ⟨w.heap.size,3,none⟩)
 f4:b4 = true→v4 = .agg #[.bool true,.slice a3 n3 c3,.slice a4 n4 c4]
 f5:b5 = true→v5 = .agg #[.bool true,.int .i64 (n3:Nat),.int .i64 (n4:Nat)]
 f6:b6 = true→v6 = .bool false
 f7:b7 = true→v7 = .bool false
 f17:b17 = true→v17 = .bool false
 f18:b18 = true→v18 = .bool false
 f28:b28 = true→v28 = .bool false
 f29:b29 = true→v29 = .bool false
def Sam1I (w:World) (a1 a2 a3 a4:Option Addr) (n1 n2 n3 n4 c1 c2 c3 c4:Nat) (S9:Nat) (l:Array Bool) (act:Act) (w':World):Sam1S→Prop
 | ⟨b0,b1,b2,b3,b4,b5,b6,b7,b8,b9,b10,b11,b12,b13,b14,b15,b16,b17,b18,b19,b20,b21,b22,b23,b24,b25,b26,b27,b28,b29,v0,v1,v2,v3,v4,v5,v6,v7,v17,v18,v28,v29,bs9,os9⟩=>l = #[b0,b1,b2,b3,b4,b5,b6,b7,b8,b9,b10,b11,b12,b13,b14,b15,b16,b17,b18,b19,b20,b21,b22,b23,b24,b25,b26,b27,b28,b29]∧act = { tmps:=#[.agg #[.bool false,.slice a1 n1 c1,.slice a2 n2 c2,.bool true,.slice a3 n3 c3,.slice a4 n4 c4],.pointer (some ⟨w.heap.size,0,none⟩),v29,v0,v1,v2,v3,v4,v5,v6,v7,undef,undef,undef,undef,undef,undef,undef,undef,undef,v17,v18,undef,undef,undef,undef,undef,undef,undef,undef,undef,v28],defers:=[] }∧Sam1R w a1 a2 a3 a4 n1 n2 n3 n4 c1 c2 c3 c4 S9 b0 b1 b2 b3 b4 b5 b6 b7 b8 b9 b10 b11 b12 b13 b14 b15 b16 b17 b18 b19 b20 b21 b22 b23 b24 b25 b26 b27 b28 b29 v0 v1 v2 v3 v4 v5 v6 v7 v17 v18 v28 v29 bs9 os9 w'
theorem bothSame_apart (a1 a2 a3 a4:Option Addr) (n1 n2 n3 n4 c1 c2 c3 c4:Nat) (w:World) :
  Calls Tryz.prog 19 #[.agg #[.bool false,.slice a1 n1 c1,.slice a2 n2 c2,.bool true,.slice a3 n3 c3,.slice a4 n4 c4]] w fun en w'=>en = .returned (.bool false)∧Below w.heap.size w w':=by
 have hS:=Rs.begin w
 replace hS:=hS.alloc #[.bool false,.slice a1 n1 c1,.slice a2 n2 c2,.bool true,.slice a3 n3 c3,.slice a4 n4 c4] 52
 try simp only [World.size_alloc] at hS
 go_enter Tryz.func19,Tryz.ntmps19
 go_wp2_with fail
 refine wp_region_any (by kernel_rfl) ?_
 change wpAny _ _ _ _ _ _ _ (World.drew _)
 have hS9:=hS.drew
 have hsW9:(World.drew (w.alloc (.cells #[.bool false,.slice a1 n1 c1,.slice a2 n2 c2,.bool true,.slice a3 n3 c3,.slice a4 n4 c4] 52))).heap.size = w.heap.size+1:=by first|rfl|simp
 generalize World.drew (w.alloc (.cells #[.bool false,.slice a1 n1 c1,.slice a2 n2 c2,.bool true,.slice a3 n3 c3,.slice a4 n4 c4] 52)) = Wd at hS9 hsW9 ⊢
 obtain ⟨S9,hS9z⟩:∃ x,x = Wd.heap.size:=⟨_,rfl⟩
 have hC9:=Rc.start (bs:=[⟨w.heap.size,#[.bool false,.slice a1 n1 c1,.slice a2 n2 c2,.bool true,.slice a3 n3 c3,.slice a4 n4 c4],52⟩]) hS9 (by simp)
 rw [← hS9z] at hC9
 refine wpAny_inv (fun l act w'=>∃ σ,Sam1I w a1 a2 a3 a4 n1 n2 n3 n4 c1 c2 c3 c4 S9 l act w' σ) ?_ ?_ _ _ _ _ ?_ ?_
 ·intro l act w' i9 hI9 hi9 hl9
  have hin9:i9 < 30:=by
   by_cases h:i9 < 30
   ·exact h
   ·obtain ⟨⟨⟩,rfl,_⟩:=hI9
    rw [Array.getElem?_eq_none (by simp; omega)] at hl9; cases hl9
  have hcase:i9 = 0∨i9 = 1∨i9 = 2∨i9 = 3∨i9 = 4∨i9 = 5∨i9 = 6∨i9 = 7∨i9 = 8∨i9 = 9∨i9 = 10∨i9 = 11∨i9 = 12∨i9 = 13∨i9 = 14∨i9 = 15∨i9 = 16∨i9 = 17∨i9 = 18∨i9 = 19∨i9 = 20∨i9 = 21∨i9 = 22∨i9 = 23∨i9 = 24∨i9 = 25∨i9 = 26∨i9 = 27∨i9 = 28∨i9 = 29:=by omega
  clear hin9
  obtain ⟨⟨b0,b1,b2,b3,b4,b5,b6,b7,b8,b9,b10,b11,b12,b13,b14,b15,b16,b17,b18,b19,b20,b21,b22,b23,b24,b25,b26,b27,b28,b29,v0,v1,v2,v3,v4,v5,v6,v7,v17,v18,v28,v29,bs9,os9⟩,rfl,rfl,hR⟩:=hI9
  rcases hcase with rfl|rfl|rfl|rfl|rfl|rfl|rfl|rfl|rfl|rfl|rfl|rfl|rfl|rfl|rfl|rfl|rfl|rfl|rfl|rfl|rfl|rfl|rfl|rfl|rfl|rfl|rfl|rfl|rfl|rfl
  ·obtain rfl:b0 = false:=by simpa using hl9
   have hc:=hR.hc
   refine wpOp_step rfl fun K hK=>?_
   go_simp
   exact hK _ _ ⟨⟨_,_,_,_,_,_,_,_,_,_,_,_,_,_,_,_,_,_,_,_,_,_,_,_,_,_,_,_,_,_,_,_,_,_,_,_,_,_,_,_,_,_,_,_⟩,rfl,rfl,{ hR with hc:=hc,f0:=(fun _=>rfl) }⟩
  ·obtain rfl:b1 = false:=by simpa using hl9
   obtain ⟨o9,ho9,hd9⟩:=(mem_ready.1 hi9).2
   cases ho9
   have e0:b0 = true:=hd9 ⟨0,.data⟩ (by simp) rfl
   subst e0
   have h9:=hR.f0 rfl
   subst h9
   have hc:=hR.hc
   have c9_0:=hc.st.cellAt (hc.old ⟨w.heap.size,#[.bool false,.slice a1 n1 c1,.slice a2 n2 c2,.bool true,.slice a3 n3 c3,.slice a4 n4 c4],52⟩ (by simp)).1 0 (.bool false) rfl
   have c9_1:=hc.st.cellAt (hc.old ⟨w.heap.size,#[.bool false,.slice a1 n1 c1,.slice a2 n2 c2,.bool true,.slice a3 n3 c3,.slice a4 n4 c4],52⟩ (by simp)).1 1 (.slice a1 n1 c1) rfl
   have c9_2:=hc.st.cellAt (hc.old ⟨w.heap.size,#[.bool false,.slice a1 n1 c1,.slice a2 n2 c2,.bool true,.slice a3 n3 c3,.slice a4 n4 c4],52⟩ (by simp)).1 2 (.slice a2 n2 c2) rfl
   simp only [] at c9_0 c9_1 c9_2
   refine wpOp_step rfl fun K hK=>?_
   go_simp
   exact hK _ _ ⟨⟨_,_,_,_,_,_,_,_,_,_,_,_,_,_,_,_,_,_,_,_,_,_,_,_,_,_,_,_,_,_,_,_,_,_,_,_,_,_,_,_,_,_,_,_⟩,rfl,rfl,{ hR with hc:=hc,f1:=(fun _=>rfl) }⟩
  ·obtain rfl:b2 = false:=by simpa using hl9
   obtain ⟨o9,ho9,hd9⟩:=(mem_ready.1 hi9).2
   cases ho9
   have e1:b1 = true:=hd9 ⟨1,.data⟩ (by simp) rfl
   subst e1
   have h9:=hR.f1 rfl
   subst h9
   have hc:=hR.hc
   have HR:=hide hR
   clear hR
   refine wpOp_step rfl fun K hK=>?_
   go_simp
   go_wp2_with fail
   refine (shape_any false a1 n1 c1 a2 n2 c2 _).mono ?_
   rintro en w9 ⟨rfl,hb9⟩
   have hR:=unhide HR
   exact hK _ _ ⟨⟨_,_,_,_,_,_,_,_,_,_,_,_,_,_,_,_,_,_,_,_,_,_,_,_,_,_,_,_,_,_,_,_,_,_,_,_,_,_,_,_,_,_,_,_⟩,rfl,rfl,{ hR with hc:=(hc.call (hc.st.kept hb9) hb9.size (fun y hy=>hy)),f2:=(fun _=>rfl) }⟩
  ·obtain rfl:b3 = false:=by simpa using hl9
   have hc:=hR.hc
   refine wpOp_step rfl fun K hK=>?_
   go_simp
   exact hK _ _ ⟨⟨_,_,_,_,_,_,_,_,_,_,_,_,_,_,_,_,_,_,_,_,_,_,_,_,_,_,_,_,_,_,_,_,_,_,_,_,_,_,_,_,_,_,_,_⟩,rfl,rfl,{ hR with hc:=hc,f3:=(fun _=>rfl) }⟩
  ·obtain rfl:b4 = false:=by simpa using hl9
   obtain ⟨o9,ho9,hd9⟩:=(mem_ready.1 hi9).2
   cases ho9
   have e3:b3 = true:=hd9 ⟨3,.data⟩ (by simp) rfl
   subst e3
   have h9:=hR.f3 rfl
   subst h9
   have hc:=hR.hc
   have c9_0:=hc.st.cellAt (hc.old ⟨w.heap.size,#[.bool false,.slice a1 n1 c1,.slice a2 n2 c2,.bool true,.slice a3 n3 c3,.slice a4 n4 c4],52⟩ (by simp)).1 3 (.bool true) rfl
   have c9_1:=hc.st.cellAt (hc.old ⟨w.heap.size,#[.bool false,.slice a1 n1 c1,.slice a2 n2 c2,.bool true,.slice a3 n3 c3,.slice a4 n4 c4],52⟩ (by simp)).1 4 (.slice a3 n3 c3) rfl
   have c9_2:=hc.st.cellAt (hc.old ⟨w.heap.size,#[.bool false,.slice a1 n1 c1,.slice a2 n2 c2,.bool true,.slice a3 n3 c3,.slice a4 n4 c4],52⟩ (by simp)).1 5 (.slice a4 n4 c4) rfl
   simp only [] at c9_0 c9_1 c9_2
   refine wpOp_step rfl fun K hK=>?_
   go_simp
   exact hK _ _ ⟨⟨_,_,_,_,_,_,_,_,_,_,_,_,_,_,_,_,_,_,_,_,_,_,_,_,_,_,_,_,_,_,_,_,_,_,_,_,_,_,_,_,_,_,_,_⟩,rfl,rfl,{ hR with hc:=hc,f4:=(fun _=>rfl) }⟩
  ·obtain rfl:b5 = false:=by simpa using hl9
   obtain ⟨o9,ho9,hd9⟩:=(mem_ready.1 hi9).2
   cases ho9
   have e4:b4 = true:=hd9 ⟨4,.data⟩ (by simp) rfl
   subst e4
   have h9:=hR.f4 rfl
   subst h9
   have hc:=hR.hc
   have HR:=hide hR
   clear hR
   refine wpOp_step rfl fun K hK=>?_
   go_simp
   go_wp2_with fail
   refine (shape_any true a3 n3 c3 a4 n4 c4 _).mono ?_
   rintro en w9 ⟨rfl,hb9⟩
   have hR:=unhide HR
   exact hK _ _ ⟨⟨_,_,_,_,_,_,_,_,_,_,_,_,_,_,_,_,_,_,_,_,_,_,_,_,_,_,_,_,_,_,_,_,_,_,_,_,_,_,_,_,_,_,_,_⟩,rfl,rfl,{ hR with hc:=(hc.call (hc.st.kept hb9) hb9.size (fun y hy=>hy)),f5:=(fun _=>rfl) }⟩
  ·obtain rfl:b6 = false:=by simpa using hl9
   obtain ⟨o9,ho9,hd9⟩:=(mem_ready.1 hi9).2
   cases ho9
   have e2:b2 = true:=hd9 ⟨2,.data⟩ (by simp) rfl
   have e5:b5 = true:=hd9 ⟨5,.data⟩ (by simp) rfl
   subst e2 e5
   have h9:=hR.f2 rfl
   subst h9
   have h9:=hR.f5 rfl
   subst h9
   have hc:=hR.hc
   refine wpOp_step rfl fun K hK=>?_
   go_simp
   exact hK _ _ ⟨⟨_,_,_,_,_,_,_,_,_,_,_,_,_,_,_,_,_,_,_,_,_,_,_,_,_,_,_,_,_,_,_,_,_,_,_,_,_,_,_,_,_,_,_,_⟩,rfl,rfl,{ hR with hc:=hc,f6:=(fun _=>by first|rfl|simp) }⟩
  ·obtain rfl:b7 = false:=by simpa using hl9
   obtain ⟨o9,ho9,hd9⟩:=(mem_ready.1 hi9).2
   cases ho9
   have e6:b6 = true:=hd9 ⟨6,.data⟩ (by simp) rfl
   subst e6
   have h9:=hR.f6 rfl
   subst h9
   have hc:=hR.hc
   refine wpOp_step rfl fun K hK=>?_
   go_simp
   exact hK _ _ ⟨⟨_,_,_,_,_,_,_,_,_,_,_,_,_,_,_,_,_,_,_,_,_,_,_,_,_,_,_,_,_,_,_,_,_,_,_,_,_,_,_,_,_,_,_,_⟩,rfl,rfl,{ hR with hc:=hc,f7:=(fun _=>rfl) }⟩
  ·obtain rfl:b8 = false:=by simpa using hl9
   obtain ⟨o9,ho9,hd9⟩:=(mem_ready.1 hi9).2
   cases ho9
   have e7:b7 = true:=hd9 ⟨7,.guard⟩ (by simp) rfl
   subst e7
   have h9:=hR.f7 rfl
   subst h9
   have hc:=hR.hc
   refine wpOp_step rfl fun K hK=>?_
   go_simp
   exact hK _ _ ⟨⟨_,_,_,_,_,_,_,_,_,_,_,_,_,_,_,_,_,_,_,_,_,_,_,_,_,_,_,_,_,_,_,_,_,_,_,_,_,_,_,_,_,_,_,_⟩,rfl,rfl,{ hR with hc:=hc }⟩
  ·obtain rfl:b9 = false:=by simpa using hl9
   obtain ⟨o9,ho9,hd9⟩:=(mem_ready.1 hi9).2
   cases ho9
   have e7:b7 = true:=hd9 ⟨7,.guard⟩ (by simp) rfl
   subst e7
   have h9:=hR.f7 rfl
   subst h9
   have hc:=hR.hc
   refine wpOp_step rfl fun K hK=>?_
   go_simp
   exact hK _ _ ⟨⟨_,_,_,_,_,_,_,_,_,_,_,_,_,_,_,_,_,_,_,_,_,_,_,_,_,_,_,_,_,_,_,_,_,_,_,_,_,_,_,_,_,_,_,_⟩,rfl,rfl,{ hR with hc:=hc }⟩
  ·obtain rfl:b10 = false:=by simpa using hl9
   obtain ⟨o9,ho9,hd9⟩:=(mem_ready.1 hi9).2
   cases ho9
   have e7:b7 = true:=hd9 ⟨7,.guard⟩ (by simp) rfl
   subst e7
   have h9:=hR.f7 rfl
   subst h9
   have hc:=hR.hc
   refine wpOp_step rfl fun K hK=>?_
   go_simp
   exact hK _ _ ⟨⟨_,_,_,_,_,_,_,_,_,_,_,_,_,_,_,_,_,_,_,_,_,_,_,_,_,_,_,_,_,_,_,_,_,_,_,_,_,_,_,_,_,_,_,_⟩,rfl,rfl,{ hR with hc:=hc }⟩
  ·obtain rfl:b11 = false:=by simpa using hl9
   obtain ⟨o9,ho9,hd9⟩:=(mem_ready.1 hi9).2
   cases ho9
   have e7:b7 = true:=hd9 ⟨7,.guard⟩ (by simp) rfl
   subst e7
   have h9:=hR.f7 rfl
   subst h9
   have hc:=hR.hc
   refine wpOp_step rfl fun K hK=>?_
   go_simp
   exact hK _ _ ⟨⟨_,_,_,_,_,_,_,_,_,_,_,_,_,_,_,_,_,_,_,_,_,_,_,_,_,_,_,_,_,_,_,_,_,_,_,_,_,_,_,_,_,_,_,_⟩,rfl,rfl,{ hR with hc:=hc }⟩
  ·obtain rfl:b12 = false:=by simpa using hl9
   obtain ⟨o9,ho9,hd9⟩:=(mem_ready.1 hi9).2
   cases ho9
   have e7:b7 = true:=hd9 ⟨7,.guard⟩ (by simp) rfl
   subst e7
   have h9:=hR.f7 rfl
   subst h9
   have hc:=hR.hc
   refine wpOp_step rfl fun K hK=>?_
   go_simp
   exact hK _ _ ⟨⟨_,_,_,_,_,_,_,_,_,_,_,_,_,_,_,_,_,_,_,_,_,_,_,_,_,_,_,_,_,_,_,_,_,_,_,_,_,_,_,_,_,_,_,_⟩,rfl,rfl,{ hR with hc:=hc }⟩
  ·obtain rfl:b13 = false:=by simpa using hl9
   obtain ⟨o9,ho9,hd9⟩:=(mem_ready.1 hi9).2
   cases ho9
   have e7:b7 = true:=hd9 ⟨7,.guard⟩ (by simp) rfl
   subst e7
   have h9:=hR.f7 rfl
   subst h9
   have hc:=hR.hc
   refine wpOp_step rfl fun K hK=>?_
   go_simp
   exact hK _ _ ⟨⟨_,_,_,_,_,_,_,_,_,_,_,_,_,_,_,_,_,_,_,_,_,_,_,_,_,_,_,_,_,_,_,_,_,_,_,_,_,_,_,_,_,_,_,_⟩,rfl,rfl,{ hR with hc:=hc }⟩
  ·obtain rfl:b14 = false:=by simpa using hl9
   obtain ⟨o9,ho9,hd9⟩:=(mem_ready.1 hi9).2
   cases ho9
   have e7:b7 = true:=hd9 ⟨7,.guard⟩ (by simp) rfl
   subst e7
   have h9:=hR.f7 rfl
   subst h9
   have hc:=hR.hc
   refine wpOp_step rfl fun K hK=>?_
   go_simp
   exact hK _ _ ⟨⟨_,_,_,_,_,_,_,_,_,_,_,_,_,_,_,_,_,_,_,_,_,_,_,_,_,_,_,_,_,_,_,_,_,_,_,_,_,_,_,_,_,_,_,_⟩,rfl,rfl,{ hR with hc:=hc }⟩
  ·obtain rfl:b15 = false:=by simpa using hl9
   obtain ⟨o9,ho9,hd9⟩:=(mem_ready.1 hi9).2
   cases ho9
   have e7:b7 = true:=hd9 ⟨7,.guard⟩ (by simp) rfl
   subst e7
   have h9:=hR.f7 rfl
   subst h9
   have hc:=hR.hc
   refine wpOp_step rfl fun K hK=>?_
   go_simp
   exact hK _ _ ⟨⟨_,_,_,_,_,_,_,_,_,_,_,_,_,_,_,_,_,_,_,_,_,_,_,_,_,_,_,_,_,_,_,_,_,_,_,_,_,_,_,_,_,_,_,_⟩,rfl,rfl,{ hR with hc:=hc }⟩
  ·obtain rfl:b16 = false:=by simpa using hl9
   obtain ⟨o9,ho9,hd9⟩:=(mem_ready.1 hi9).2
   cases ho9
   have e7:b7 = true:=hd9 ⟨7,.chain⟩ (by simp) rfl
   subst e7
   have h9:=hR.f7 rfl
   subst h9
   have hc:=hR.hc
   refine wpOp_step rfl fun K hK=>?_
   go_simp
   exact hK _ _ ⟨⟨_,_,_,_,_,_,_,_,_,_,_,_,_,_,_,_,_,_,_,_,_,_,_,_,_,_,_,_,_,_,_,_,_,_,_,_,_,_,_,_,_,_,_,_⟩,rfl,rfl,{ hR with hc:=hc }⟩
  ·obtain rfl:b17 = false:=by simpa using hl9
   obtain ⟨o9,ho9,hd9⟩:=(mem_ready.1 hi9).2
   cases ho9
   have e7:b7 = true:=hd9 ⟨7,.data⟩ (by simp) rfl
   subst e7
   have h9:=hR.f7 rfl
   subst h9
   have hc:=hR.hc
   refine wpOp_step rfl fun K hK=>?_
   go_simp
   exact hK _ _ ⟨⟨_,_,_,_,_,_,_,_,_,_,_,_,_,_,_,_,_,_,_,_,_,_,_,_,_,_,_,_,_,_,_,_,_,_,_,_,_,_,_,_,_,_,_,_⟩,rfl,rfl,{ hR with hc:=hc,f17:=(fun _=>by first|rfl|simp) }⟩
  ·obtain rfl:b18 = false:=by simpa using hl9
   obtain ⟨o9,ho9,hd9⟩:=(mem_ready.1 hi9).2
   cases ho9
   have e17:b17 = true:=hd9 ⟨17,.data⟩ (by simp) rfl
   subst e17
   have h9:=hR.f17 rfl
   subst h9
   have hc:=hR.hc
   refine wpOp_step rfl fun K hK=>?_
   go_simp
   exact hK _ _ ⟨⟨_,_,_,_,_,_,_,_,_,_,_,_,_,_,_,_,_,_,_,_,_,_,_,_,_,_,_,_,_,_,_,_,_,_,_,_,_,_,_,_,_,_,_,_⟩,rfl,rfl,{ hR with hc:=hc,f18:=(fun _=>rfl) }⟩
  ·obtain rfl:b19 = false:=by simpa using hl9
   obtain ⟨o9,ho9,hd9⟩:=(mem_ready.1 hi9).2
   cases ho9
   have e18:b18 = true:=hd9 ⟨18,.guard⟩ (by simp) rfl
   subst e18
   have h9:=hR.f18 rfl
   subst h9
   have hc:=hR.hc
   refine wpOp_step rfl fun K hK=>?_
   go_simp
   exact hK _ _ ⟨⟨_,_,_,_,_,_,_,_,_,_,_,_,_,_,_,_,_,_,_,_,_,_,_,_,_,_,_,_,_,_,_,_,_,_,_,_,_,_,_,_,_,_,_,_⟩,rfl,rfl,{ hR with hc:=hc }⟩
  ·obtain rfl:b20 = false:=by simpa using hl9
   obtain ⟨o9,ho9,hd9⟩:=(mem_ready.1 hi9).2
   cases ho9
   have e18:b18 = true:=hd9 ⟨18,.guard⟩ (by simp) rfl
   subst e18
   have h9:=hR.f18 rfl
   subst h9
   have hc:=hR.hc
   refine wpOp_step rfl fun K hK=>?_
   go_simp
   exact hK _ _ ⟨⟨_,_,_,_,_,_,_,_,_,_,_,_,_,_,_,_,_,_,_,_,_,_,_,_,_,_,_,_,_,_,_,_,_,_,_,_,_,_,_,_,_,_,_,_⟩,rfl,rfl,{ hR with hc:=hc }⟩
  ·obtain rfl:b21 = false:=by simpa using hl9
   obtain ⟨o9,ho9,hd9⟩:=(mem_ready.1 hi9).2
   cases ho9
   have e18:b18 = true:=hd9 ⟨18,.guard⟩ (by simp) rfl
   subst e18
   have h9:=hR.f18 rfl
   subst h9
   have hc:=hR.hc
   refine wpOp_step rfl fun K hK=>?_
   go_simp
   exact hK _ _ ⟨⟨_,_,_,_,_,_,_,_,_,_,_,_,_,_,_,_,_,_,_,_,_,_,_,_,_,_,_,_,_,_,_,_,_,_,_,_,_,_,_,_,_,_,_,_⟩,rfl,rfl,{ hR with hc:=hc }⟩
  ·obtain rfl:b22 = false:=by simpa using hl9
   obtain ⟨o9,ho9,hd9⟩:=(mem_ready.1 hi9).2
   cases ho9
   have e18:b18 = true:=hd9 ⟨18,.guard⟩ (by simp) rfl
   subst e18
   have h9:=hR.f18 rfl
   subst h9
   have hc:=hR.hc
   refine wpOp_step rfl fun K hK=>?_
   go_simp
   exact hK _ _ ⟨⟨_,_,_,_,_,_,_,_,_,_,_,_,_,_,_,_,_,_,_,_,_,_,_,_,_,_,_,_,_,_,_,_,_,_,_,_,_,_,_,_,_,_,_,_⟩,rfl,rfl,{ hR with hc:=hc }⟩
  ·obtain rfl:b23 = false:=by simpa using hl9
   obtain ⟨o9,ho9,hd9⟩:=(mem_ready.1 hi9).2
   cases ho9
   have e18:b18 = true:=hd9 ⟨18,.guard⟩ (by simp) rfl
   subst e18
   have h9:=hR.f18 rfl
   subst h9
   have hc:=hR.hc
   refine wpOp_step rfl fun K hK=>?_
   go_simp
   exact hK _ _ ⟨⟨_,_,_,_,_,_,_,_,_,_,_,_,_,_,_,_,_,_,_,_,_,_,_,_,_,_,_,_,_,_,_,_,_,_,_,_,_,_,_,_,_,_,_,_⟩,rfl,rfl,{ hR with hc:=hc }⟩
  ·obtain rfl:b24 = false:=by simpa using hl9
   obtain ⟨o9,ho9,hd9⟩:=(mem_ready.1 hi9).2
   cases ho9
   have e18:b18 = true:=hd9 ⟨18,.guard⟩ (by simp) rfl
   subst e18
   have h9:=hR.f18 rfl
   subst h9
   have hc:=hR.hc
   refine wpOp_step rfl fun K hK=>?_
   go_simp
   exact hK _ _ ⟨⟨_,_,_,_,_,_,_,_,_,_,_,_,_,_,_,_,_,_,_,_,_,_,_,_,_,_,_,_,_,_,_,_,_,_,_,_,_,_,_,_,_,_,_,_⟩,rfl,rfl,{ hR with hc:=hc }⟩
  ·obtain rfl:b25 = false:=by simpa using hl9
   obtain ⟨o9,ho9,hd9⟩:=(mem_ready.1 hi9).2
   cases ho9
   have e18:b18 = true:=hd9 ⟨18,.guard⟩ (by simp) rfl
   subst e18
   have h9:=hR.f18 rfl
   subst h9
   have hc:=hR.hc
   refine wpOp_step rfl fun K hK=>?_
   go_simp
   exact hK _ _ ⟨⟨_,_,_,_,_,_,_,_,_,_,_,_,_,_,_,_,_,_,_,_,_,_,_,_,_,_,_,_,_,_,_,_,_,_,_,_,_,_,_,_,_,_,_,_⟩,rfl,rfl,{ hR with hc:=hc }⟩
  ·obtain rfl:b26 = false:=by simpa using hl9
   obtain ⟨o9,ho9,hd9⟩:=(mem_ready.1 hi9).2
   cases ho9
   have e18:b18 = true:=hd9 ⟨18,.guard⟩ (by simp) rfl
   subst e18
   have h9:=hR.f18 rfl
   subst h9
   have hc:=hR.hc
   refine wpOp_step rfl fun K hK=>?_
   go_simp
   exact hK _ _ ⟨⟨_,_,_,_,_,_,_,_,_,_,_,_,_,_,_,_,_,_,_,_,_,_,_,_,_,_,_,_,_,_,_,_,_,_,_,_,_,_,_,_,_,_,_,_⟩,rfl,rfl,{ hR with hc:=hc }⟩
  ·obtain rfl:b27 = false:=by simpa using hl9
   obtain ⟨o9,ho9,hd9⟩:=(mem_ready.1 hi9).2
   cases ho9
   have e18:b18 = true:=hd9 ⟨18,.chain⟩ (by simp) rfl
   subst e18
   have h9:=hR.f18 rfl
   subst h9
   have hc:=hR.hc
   refine wpOp_step rfl fun K hK=>?_
   go_simp
   exact hK _ _ ⟨⟨_,_,_,_,_,_,_,_,_,_,_,_,_,_,_,_,_,_,_,_,_,_,_,_,_,_,_,_,_,_,_,_,_,_,_,_,_,_,_,_,_,_,_,_⟩,rfl,rfl,{ hR with hc:=hc }⟩
  ·obtain rfl:b28 = false:=by simpa using hl9
   obtain ⟨o9,ho9,hd9⟩:=(mem_ready.1 hi9).2
   cases ho9
   have e18:b18 = true:=hd9 ⟨18,.data⟩ (by simp) rfl
   subst e18
   have h9:=hR.f18 rfl
   subst h9
   have hc:=hR.hc
   refine wpOp_step rfl fun K hK=>?_
   go_simp
   exact hK _ _ ⟨⟨_,_,_,_,_,_,_,_,_,_,_,_,_,_,_,_,_,_,_,_,_,_,_,_,_,_,_,_,_,_,_,_,_,_,_,_,_,_,_,_,_,_,_,_⟩,rfl,rfl,{ hR with hc:=hc,f28:=(fun _=>by first|rfl|simp) }⟩
  ·obtain rfl:b29 = false:=by simpa using hl9
   obtain ⟨o9,ho9,hd9⟩:=(mem_ready.1 hi9).2
   cases ho9
   have e28:b28 = true:=hd9 ⟨28,.data⟩ (by simp) rfl
   subst e28
   have h9:=hR.f28 rfl
   subst h9
   have hc:=hR.hc
   refine wpOp_step rfl fun K hK=>?_
   go_simp
   exact hK _ _ ⟨⟨_,_,_,_,_,_,_,_,_,_,_,_,_,_,_,_,_,_,_,_,_,_,_,_,_,_,_,_,_,_,_,_,_,_,_,_,_,_,_,_,_,_,_,_⟩,rfl,rfl,{ hR with hc:=hc,f29:=(fun _=>rfl) }⟩
 ·rintro l act Wq1 ⟨⟨b0,b1,b2,b3,b4,b5,b6,b7,b8,b9,b10,b11,b12,b13,b14,b15,b16,b17,b18,b19,b20,b21,b22,b23,b24,b25,b26,b27,b28,b29,v0,v1,v2,v3,v4,v5,v6,v7,v17,v18,v28,v29,bs9,os9⟩,rfl,rfl,hR⟩ hr9
  obtain ⟨hc,f0,f1,f2,f3,f4,f5,f6,f7,f17,f18,f28,f29⟩:=hR
  have eall:=all_done hr9 (by kernel_rfl) rfl
  obtain rfl:b0 = true:=eall 0 (by decide)
  obtain rfl:b1 = true:=eall 1 (by decide)
  obtain rfl:b2 = true:=eall 2 (by decide)
  obtain rfl:b3 = true:=eall 3 (by decide)
  obtain rfl:b4 = true:=eall 4 (by decide)
  obtain rfl:b5 = true:=eall 5 (by decide)
  obtain rfl:b6 = true:=eall 6 (by decide)
  obtain rfl:b7 = true:=eall 7 (by decide)
  obtain rfl:b8 = true:=eall 8 (by decide)
  obtain rfl:b9 = true:=eall 9 (by decide)
  obtain rfl:b10 = true:=eall 10 (by decide)
  obtain rfl:b11 = true:=eall 11 (by decide)
  obtain rfl:b12 = true:=eall 12 (by decide)
  obtain rfl:b13 = true:=eall 13 (by decide)
  obtain rfl:b14 = true:=eall 14 (by decide)
  obtain rfl:b15 = true:=eall 15 (by decide)
  obtain rfl:b16 = true:=eall 16 (by decide)
  obtain rfl:b17 = true:=eall 17 (by decide)
  obtain rfl:b18 = true:=eall 18 (by decide)
  obtain rfl:b19 = true:=eall 19 (by decide)
  obtain rfl:b20 = true:=eall 20 (by decide)
  obtain rfl:b21 = true:=eall 21 (by decide)
  obtain rfl:b22 = true:=eall 22 (by decide)
  obtain rfl:b23 = true:=eall 23 (by decide)
  obtain rfl:b24 = true:=eall 24 (by decide)
  obtain rfl:b25 = true:=eall 25 (by decide)
  obtain rfl:b26 = true:=eall 26 (by decide)
  obtain rfl:b27 = true:=eall 27 (by decide)
  obtain rfl:b28 = true:=eall 28 (by decide)
  obtain rfl:b29 = true:=eall 29 (by decide)
  clear hr9 eall
  have h9:=f0 rfl
  subst h9
  have h9:=f1 rfl
  subst h9
  have h9:=f2 rfl
  subst h9
  have h9:=f3 rfl
  subst h9
  have h9:=f4 rfl
  subst h9
  have h9:=f5 rfl
  subst h9
  have h9:=f6 rfl
  subst h9
  have h9:=f7 rfl
  subst h9
  have h9:=f17 rfl
  subst h9
  have h9:=f18 rfl
  subst h9
  have h9:=f28 rfl
  subst h9
  have h9:=f29 rfl
  subst h9
  have hbs9:∀ x,x∈([⟨w.heap.size,#[.bool false,.slice a1 n1 c1,.slice a2 n2 c2,.bool true,.slice a3 n3 c3,.slice a4 n4 c4],52⟩]:List En)→x∈bs9:=by
   intro x hx
   rcases List.mem_cons.1 hx with rfl|hx
   ·exact (hc.old _ (by simp)).1
   exact absurd hx List.not_mem_nil
  have hos9:∀ x,x∈([]:Os)→x∈os9:=by
   intro x hx
   exact absurd hx List.not_mem_nil
  have hS:=hc.st.sub hbs9 (fun x hx=>hx) hos9
  have hsz9:=hc.sz
  rw [hS9z,hsW9] at hsz9
  clear hbs9 hos9 hc f0 f1 f2 f3 f4 f5 f6 f7 f17 f18 f28 f29
  have hz1:=hsz9
  clear hsz9 hS9z hS9 hC9 hsW9
  go_wp2
  go_ret
  exact ⟨rfl,hS.fr⟩
 ·simp
 ·exact ⟨⟨false,false,false,false,false,false,false,false,false,false,false,false,false,false,false,false,false,false,false,false,false,false,false,false,false,false,false,false,false,false,undef,undef,undef,undef,undef,undef,undef,undef,undef,undef,undef,.bool false,_,_⟩,rfl,rfl,⟨hC9,nb,nb,nb,nb,nb,nb,nb,nb,nb,nb,nb,nb⟩⟩
theorem cmp_apart (a1 a2 a3 a4:Option Addr) (n1 n2 n3 n4 c1 c2 c3 c4:Nat) (x y:Rat) (w:World) (hx:Fq w false a1 n1 a2 n2 x) (hy:Fq w true a3 n3 a4 n4 y) :
  Calls Tryz.prog 6 #[.agg #[.bool false,.slice a1 n1 c1,.slice a2 n2 c2],.agg #[.bool true,.slice a3 n3 c3,.slice a4 n4 c4]] w fun en w'=>en = .returned (.tuple #[.int .i64 1,.int .i64 0])∧Below w.heap.size w w':=by
 have hS:=((Rs.begin w).alloc #[.bool false,.slice a1 n1 c1,.slice a2 n2 c2] 29).alloc #[.bool true,.slice a3 n3 c3,.slice a4 n4 c4] 29 |>.alloc #[.bool false,.slice a1 n1 c1,.slice a2 n2 c2,.bool true,.slice a3 n3 c3,.slice a4 n4 c4] 52
 simp only [World.size_alloc] at hS
 go_enter Tryz.func6,Tryz.ntmps6
 go_wp2_with fail
 refine (bothCheck_rat false true a1 a2 a3 a4 n1 n2 n3 n4 c1 c2 c3 c4 x y _ (hx.kept hS.fr) (hy.kept hS.fr)).mono ?_
 rintro en w1 ⟨rfl,hb⟩
 replace hS:=hS.kept hb
 clear hb
 obtain ⟨⟨k0,k1,k2,k3,k4,k5,-⟩,⟨k6,-,-,-⟩,⟨k7,-,-,-⟩,-⟩:=hS.cells
 go_wp2_with fail
 refine (bothSame_apart a1 a2 a3 a4 n1 n2 n3 n4 c1 c2 c3 c4 _).mono ?_
 rintro en w2 ⟨rfl,hb⟩
 replace hS:=hS.kept hb
 clear hb k0 k1 k2 k3 k4 k5 k6 k7
 obtain ⟨-,⟨k6,-,-,-⟩,⟨k7,-,-,-⟩,-⟩:=hS.cells
 go_wp2_with fail
 refine (sign_true _).mono ?_
 rintro en w3 ⟨rfl,hb⟩
 replace hS:=hS.kept hb
 go_wp2
 exact bodyPost_ret (v:=.tuple #[.int .i64 1,.int .i64 0]) (by simp [results,Tryz.results6,go_sem]) rfl ⟨rfl,hS.fr⟩
theorem text_whole (a a':Option Addr) (n n' c c':Nat) (x:Rat) (w:World) (h:Fq w false a n a' n' x) (hd:x.den = 1) :
  Calls Tryz.prog 15 #[.agg #[.bool false,.slice a n c,.slice a' n' c']] w fun en w'=>(∃ s:ByteArray,en = .returned (.tuple #[.string s,.int .i64 0])∧Says s x.num.natAbs)∧Below w.heap.size w w':=by
 have hS:=(Rs.begin w).alloc #[.bool false,.slice a n c,.slice a' n' c'] 29
 go_enter Tryz.func15,Tryz.ntmps15
 go_wp2_with fail
 refine (check_rat false a a' n n' c c' x _ (h.kept hS.fr)).mono ?_
 rintro en w1 ⟨rfl,hb⟩
 replace hS:=hS.kept hb
 clear hb
 obtain ⟨⟨k0,k1,k2,-⟩,-⟩:=hS.cells
 go_wp2_with fail
 refine (text_any a n c _ _ (h.kept hS.fr).num).mono ?_
 rintro en w2 ⟨s,rfl,hs,hb⟩
 have HS:=hide hs
 replace hS:=hS.kept hb
 clear hb hs k0 k1 k2
 obtain ⟨⟨k0,k1,k2,-⟩,-⟩:=hS.cells
 go_wp2_with fail
 refine (isOne_any a' n' c' _ _ (h.kept hS.fr).den).mono ?_
 rintro en w3 ⟨rfl,hb⟩
 rw [decide_eq_true hd]
 replace hS:=hS.kept hb
 go_wp2
 exact bodyPost_ret (v:=.tuple #[.string s,.int .i64 0]) (by simp [results,Tryz.results15,go_sem]) rfl ⟨⟨s,rfl,unhide HS⟩,hS.fr⟩
theorem floor_above (a a':Option Addr) (n n' c c':Nat) (x:Rat) (w:World) (h:Fq w false a n a' n' x) :
  Calls Tryz.prog 8 #[.agg #[.bool false,.slice a n c,.slice a' n' c']] w fun en w'=>(∃ b k l,en = .returned (.tuple #[.bool false,.agg #[.slice b k l],.int .i64 0])∧Mine w' w.heap.size b k l (x.num.natAbs / x.den))∧Below w.heap.size w w':=by
 have hS:=Rs.begin w
 replace hS:=hS.num h.num
 replace hS:=hS.num h.den
 replace hS:=hS.alloc #[.bool false,.slice a n c,.slice a' n' c'] 29
 try simp only [World.size_alloc] at hS
 replace hS:=hS.alloc #[.slice none 0 0] 27
 try simp only [World.size_alloc] at hS
 go_enter Tryz.func8,Tryz.ntmps8
 go_wp2_with fail
 refine (check_rat false a a' n n' c c' x _ ⟨h.neg,(hS.nm (a,n,x.num.natAbs) (by simp)),(hS.nm (a',n',x.den) (by simp))⟩).mono ?_
 rintro en w1 ⟨rfl,hb1⟩
 have hz1:=hb1.size
 replace hS:=hS.kept hb1
 clear hb1
 simp only [World.size_alloc] at hz1
 obtain ⟨⟨k0_0,k0_1,k0_2,-⟩,z0⟩:=hS.cz ⟨w.heap.size,#[.bool false,.slice a n c,.slice a' n' c'],29⟩ (by simp)
 have z0_0:=z0 0
 have z0_1:=z0 1
 have z0_2:=z0 2
 clear z0
 simp only [] at k0_0 z0_0 k0_1 z0_1 k0_2 z0_2
 replace hS:=hS.work
 try simp only [World.size_alloc] at hS
 have kw0:=hS.cellAt (x:=⟨w.heap.size,#[.bool false,.slice a n c,.slice a' n' c'],29⟩) (by simp) 0 (.bool false) rfl
 have kw1:=hS.cellAt (x:=⟨w.heap.size,#[.bool false,.slice a n c,.slice a' n' c'],29⟩) (by simp) 1 (.slice a n c) rfl
 have kw2:=hS.cellAt (x:=⟨w.heap.size,#[.bool false,.slice a n c,.slice a' n' c'],29⟩) (by simp) 2 (.slice a' n' c') rfl
 simp only [] at kw0 kw1 kw2
 go_wp2_with fail
 clear k0_0 z0_0 k0_1 z0_1 k0_2 z0_2
 clear kw0 kw1 kw2
 refine (W_div hS c c' (hS.nm (a,n,x.num.natAbs) (by simp)) (hS.nm (a',n',x.den) (by simp))).mono ?_
 clear hS; rintro en w2 ⟨yA2,yN2,yC2,yM2,yP2,yG2,yR2,yL2,yE2,rfl,hS,q2,hz2⟩
 have Q2:=hide q2
 clear q2
 simp only [World.size_alloc] at hz2
 replace hS:=hS.alloc #[.slice none 0 0] 27
 try simp only [World.size_alloc] at hS
 have u1:=hS.cellAt (x:=⟨w.heap.size+1,#[.slice none 0 0],27⟩) (by simp) 0 (.slice none 0 0) rfl
 have y1:=hS.frozen (x:=⟨w.heap.size+1,#[.slice none 0 0],27⟩) (by simp) 0
 simp only [] at u1 y1
 replace hS:=hS.put (x:=⟨w.heap.size+1,#[.slice none 0 0],27⟩) (by simp) (by simp only []; omega) 0 (.slice yA2 yN2 yC2) (by simp) [⟨w.heap.size+1,#[.slice yA2 yN2 yC2],27⟩,⟨w2.heap.size,#[.slice none 0 0],27⟩,⟨w.heap.size,#[.bool false,.slice a n c,.slice a' n' c'],29⟩] (by intro y hy; rcases List.mem_cons.1 hy with rfl|hy; exact Or.inl rfl; rcases List.mem_cons.1 hy with rfl|hy; exact Or.inr ⟨by simp,by simp only []; omega⟩; rcases List.mem_cons.1 hy with rfl|hy; exact Or.inr ⟨by simp,by simp only []; omega⟩; exact absurd hy List.not_mem_nil)
 have u2:=hS.cellAt (x:=⟨w2.heap.size,#[.slice none 0 0],27⟩) (by simp) 0 (.slice none 0 0) rfl
 have y2:=hS.frozen (x:=⟨w2.heap.size,#[.slice none 0 0],27⟩) (by simp) 0
 simp only [] at u2 y2
 replace hS:=hS.put (x:=⟨w2.heap.size,#[.slice none 0 0],27⟩) (by simp) (by simp only []; omega) 0 (.slice yP2 yG2 yR2) (by simp) [⟨w2.heap.size,#[.slice yP2 yG2 yR2],27⟩,⟨w.heap.size+1,#[.slice yA2 yN2 yC2],27⟩,⟨w.heap.size,#[.bool false,.slice a n c,.slice a' n' c'],29⟩] (by intro y hy; rcases List.mem_cons.1 hy with rfl|hy; exact Or.inl rfl; rcases List.mem_cons.1 hy with rfl|hy; exact Or.inr ⟨by simp,by simp only []; omega⟩; rcases List.mem_cons.1 hy with rfl|hy; exact Or.inr ⟨by simp,by simp only []; omega⟩; exact absurd hy List.not_mem_nil)
 obtain ⟨⟨k0_0,-⟩,-⟩:=hS.cz ⟨w2.heap.size,#[.slice yP2 yG2 yR2],27⟩ (by simp)
 obtain ⟨⟨k1_0,k1_1,k1_2,-⟩,-⟩:=hS.cz ⟨w.heap.size,#[.bool false,.slice a n c,.slice a' n' c'],29⟩ (by simp)
 simp only [] at k0_0 k1_0 k1_1 k1_2
 go_wp2_with fail
 clear k0_0 k1_0 k1_1 k1_2
 obtain ⟨⟨k0_0,-⟩,z0⟩:=hS.cz ⟨w.heap.size+1,#[.slice yA2 yN2 yC2],27⟩ (by simp)
 have z0_0:=z0 0
 clear z0
 obtain ⟨⟨k1_0,k1_1,k1_2,-⟩,z1⟩:=hS.cz ⟨w.heap.size,#[.bool false,.slice a n c,.slice a' n' c'],29⟩ (by simp)
 have z1_0:=z1 0
 have z1_1:=z1 1
 have z1_2:=z1 2
 clear z1
 simp only [] at k0_0 z0_0 k1_0 z1_0 k1_1 z1_1 k1_2 z1_2
 have hcw:=Wk.cell hS.wk
 go_region
 go_wp2
 obtain ⟨z1,z2,z3⟩:=wd_ok (unhide Q2) h.q.pos
 have u3:=hS.cellAt (x:=⟨w.heap.size+1,#[.slice yA2 yN2 yC2],27⟩) (by simp) 0 (.slice yA2 yN2 yC2) rfl
 have y3:=hS.frozen (x:=⟨w.heap.size+1,#[.slice yA2 yN2 yC2],27⟩) (by simp) 0
 simp only [] at u3 y3
 replace hS:=hS.put (x:=⟨w.heap.size+1,#[.slice yA2 yN2 yC2],27⟩) (by simp) (by simp only []; omega) 0 (.slice yA2 yN2 yC2) (by simp) [⟨w.heap.size+1,#[.slice yA2 yN2 yC2],27⟩,⟨w2.heap.size,#[.slice yP2 yG2 yR2],27⟩,⟨w.heap.size,#[.bool false,.slice a n c,.slice a' n' c'],29⟩] (by intro y hy; rcases List.mem_cons.1 hy with rfl|hy; exact Or.inl rfl; rcases List.mem_cons.1 hy with rfl|hy; exact Or.inr ⟨by simp,by simp only []; omega⟩; rcases List.mem_cons.1 hy with rfl|hy; exact Or.inr ⟨by simp,by simp only []; omega⟩; exact absurd hy List.not_mem_nil)
 replace hS:=hS.drew
 rw [z1]
 have hbel:=But.gr (B:=w.heap.size) (gr_refl w) hS.fr (by omega) (Nat.le_refl _)
 have o1:=hS.ow (yA2,yN2,yC2,yM2) (by simp)
 simp only [] at o1
 rw [z2] at o1
 exact bodyPost_ret (v:=.tuple #[.bool false,.agg #[.slice yA2 yN2 yC2],.int .i64 0]) (by simp [results,Tryz.results8,go_sem,k0_0]) rfl ⟨⟨_,_,_,rfl,o1⟩,hbel⟩
theorem floor_whole (a a':Option Addr) (n n' c c':Nat) (x:Rat) (w:World) (h:Fq w true a n a' n' x) (hrest:x.num.natAbs % x.den = 0) :
  Calls Tryz.prog 8 #[.agg #[.bool true,.slice a n c,.slice a' n' c']] w fun en w'=>(∃ b k l,en = .returned (.tuple #[.bool true,.agg #[.slice b k l],.int .i64 0])∧Mine w' w.heap.size b k l (x.num.natAbs / x.den))∧Below w.heap.size w w':=by
 have hS:=Rs.begin w
 replace hS:=hS.num h.num
 replace hS:=hS.num h.den
 replace hS:=hS.alloc #[.bool true,.slice a n c,.slice a' n' c'] 29
 try simp only [World.size_alloc] at hS
 replace hS:=hS.alloc #[.slice none 0 0] 27
 try simp only [World.size_alloc] at hS
 go_enter Tryz.func8,Tryz.ntmps8
 go_wp2_with fail
 refine (check_rat true a a' n n' c c' x _ ⟨h.neg,(hS.nm (a,n,x.num.natAbs) (by simp)),(hS.nm (a',n',x.den) (by simp))⟩).mono ?_
 rintro en w1 ⟨rfl,hb1⟩
 have hz1:=hb1.size
 replace hS:=hS.kept hb1
 clear hb1
 simp only [World.size_alloc] at hz1
 obtain ⟨⟨k0_0,k0_1,k0_2,-⟩,z0⟩:=hS.cz ⟨w.heap.size,#[.bool true,.slice a n c,.slice a' n' c'],29⟩ (by simp)
 have z0_0:=z0 0
 have z0_1:=z0 1
 have z0_2:=z0 2
 clear z0
 simp only [] at k0_0 z0_0 k0_1 z0_1 k0_2 z0_2
 replace hS:=hS.work
 try simp only [World.size_alloc] at hS
 have kw0:=hS.cellAt (x:=⟨w.heap.size,#[.bool true,.slice a n c,.slice a' n' c'],29⟩) (by simp) 0 (.bool true) rfl
 have kw1:=hS.cellAt (x:=⟨w.heap.size,#[.bool true,.slice a n c,.slice a' n' c'],29⟩) (by simp) 1 (.slice a n c) rfl
 have kw2:=hS.cellAt (x:=⟨w.heap.size,#[.bool true,.slice a n c,.slice a' n' c'],29⟩) (by simp) 2 (.slice a' n' c') rfl
 simp only [] at kw0 kw1 kw2
 go_wp2_with fail
 clear k0_0 z0_0 k0_1 z0_1 k0_2 z0_2
 clear kw0 kw1 kw2
 refine (W_div hS c c' (hS.nm (a,n,x.num.natAbs) (by simp)) (hS.nm (a',n',x.den) (by simp))).mono ?_
 clear hS; rintro en w2 ⟨yA2,yN2,yC2,yM2,yP2,yG2,yR2,yL2,yE2,rfl,hS,q2,hz2⟩
 have Q2:=hide q2
 clear q2
 simp only [World.size_alloc] at hz2
 replace hS:=hS.alloc #[.slice none 0 0] 27
 try simp only [World.size_alloc] at hS
 have u1:=hS.cellAt (x:=⟨w.heap.size+1,#[.slice none 0 0],27⟩) (by simp) 0 (.slice none 0 0) rfl
 have y1:=hS.frozen (x:=⟨w.heap.size+1,#[.slice none 0 0],27⟩) (by simp) 0
 simp only [] at u1 y1
 replace hS:=hS.put (x:=⟨w.heap.size+1,#[.slice none 0 0],27⟩) (by simp) (by simp only []; omega) 0 (.slice yA2 yN2 yC2) (by simp) [⟨w.heap.size+1,#[.slice yA2 yN2 yC2],27⟩,⟨w2.heap.size,#[.slice none 0 0],27⟩,⟨w.heap.size,#[.bool true,.slice a n c,.slice a' n' c'],29⟩] (by intro y hy; rcases List.mem_cons.1 hy with rfl|hy; exact Or.inl rfl; rcases List.mem_cons.1 hy with rfl|hy; exact Or.inr ⟨by simp,by simp only []; omega⟩; rcases List.mem_cons.1 hy with rfl|hy; exact Or.inr ⟨by simp,by simp only []; omega⟩; exact absurd hy List.not_mem_nil)
 have u2:=hS.cellAt (x:=⟨w2.heap.size,#[.slice none 0 0],27⟩) (by simp) 0 (.slice none 0 0) rfl
 have y2:=hS.frozen (x:=⟨w2.heap.size,#[.slice none 0 0],27⟩) (by simp) 0
 simp only [] at u2 y2
 replace hS:=hS.put (x:=⟨w2.heap.size,#[.slice none 0 0],27⟩) (by simp) (by simp only []; omega) 0 (.slice yP2 yG2 yR2) (by simp) [⟨w2.heap.size,#[.slice yP2 yG2 yR2],27⟩,⟨w.heap.size+1,#[.slice yA2 yN2 yC2],27⟩,⟨w.heap.size,#[.bool true,.slice a n c,.slice a' n' c'],29⟩] (by intro y hy; rcases List.mem_cons.1 hy with rfl|hy; exact Or.inl rfl; rcases List.mem_cons.1 hy with rfl|hy; exact Or.inr ⟨by simp,by simp only []; omega⟩; rcases List.mem_cons.1 hy with rfl|hy; exact Or.inr ⟨by simp,by simp only []; omega⟩; exact absurd hy List.not_mem_nil)
 obtain ⟨⟨k0_0,-⟩,-⟩:=hS.cz ⟨w2.heap.size,#[.slice yP2 yG2 yR2],27⟩ (by simp)
 obtain ⟨⟨k1_0,k1_1,k1_2,-⟩,-⟩:=hS.cz ⟨w.heap.size,#[.bool true,.slice a n c,.slice a' n' c'],29⟩ (by simp)
 simp only [] at k0_0 k1_0 k1_1 k1_2
 go_wp2_with fail
 clear k0_0 k1_0 k1_1 k1_2
 refine (nought_any yP2 yG2 yR2 _).mono ?_
 rintro en w3 ⟨rfl,hb9⟩
 have hz3:=hb9.size
 replace hS:=hS.kept hb9
 clear hb9
 replace hz3:w2.heap.size+1≤w3.heap.size:=by simpa [World.setCell] using hz3
 have hno:decide (yG2 = 0) = true:=by rw [decide_eq_true_iff]; have e3:=wd_ok (unhide Q2) h.q.pos; exact (hS.ow (yP2,yG2,yR2,yL2) (by simp)).num.zero.2 (by simp only []; omega)
 rw [hno]
 clear hno
 go_wp2_with fail
 obtain ⟨⟨k0_0,-⟩,z0⟩:=hS.cz ⟨w.heap.size+1,#[.slice yA2 yN2 yC2],27⟩ (by simp)
 have z0_0:=z0 0
 clear z0
 obtain ⟨⟨k1_0,k1_1,k1_2,-⟩,z1⟩:=hS.cz ⟨w.heap.size,#[.bool true,.slice a n c,.slice a' n' c'],29⟩ (by simp)
 have z1_0:=z1 0
 have z1_1:=z1 1
 have z1_2:=z1 2
 clear z1
 simp only [] at k0_0 z0_0 k1_0 z1_0 k1_1 z1_1 k1_2 z1_2
 have hcw:=Wk.cell hS.wk
 go_region
 go_wp2
 obtain ⟨z1,z2,z3⟩:=wd_ok (unhide Q2) h.q.pos
 have u3:=hS.cellAt (x:=⟨w.heap.size+1,#[.slice yA2 yN2 yC2],27⟩) (by simp) 0 (.slice yA2 yN2 yC2) rfl
 have y3:=hS.frozen (x:=⟨w.heap.size+1,#[.slice yA2 yN2 yC2],27⟩) (by simp) 0
 simp only [] at u3 y3
 replace hS:=hS.put (x:=⟨w.heap.size+1,#[.slice yA2 yN2 yC2],27⟩) (by simp) (by simp only []; omega) 0 (.slice yA2 yN2 yC2) (by simp) [⟨w.heap.size+1,#[.slice yA2 yN2 yC2],27⟩,⟨w2.heap.size,#[.slice yP2 yG2 yR2],27⟩,⟨w.heap.size,#[.bool true,.slice a n c,.slice a' n' c'],29⟩] (by intro y hy; rcases List.mem_cons.1 hy with rfl|hy; exact Or.inl rfl; rcases List.mem_cons.1 hy with rfl|hy; exact Or.inr ⟨by simp,by simp only []; omega⟩; rcases List.mem_cons.1 hy with rfl|hy; exact Or.inr ⟨by simp,by simp only []; omega⟩; exact absurd hy List.not_mem_nil)
 replace hS:=hS.drew
 rw [z1]
 have hbel:=But.gr (B:=w.heap.size) (gr_refl w) hS.fr (by omega) (Nat.le_refl _)
 have o1:=hS.ow (yA2,yN2,yC2,yM2) (by simp)
 simp only [] at o1
 rw [z2] at o1
 exact bodyPost_ret (v:=.tuple #[.bool true,.agg #[.slice yA2 yN2 yC2],.int .i64 0]) (by simp [results,Tryz.results8,go_sem,k0_0]) rfl ⟨⟨_,_,_,rfl,o1⟩,hbel⟩
end Go.Proofs.YtfhmbnnlcjdblaaGreat
