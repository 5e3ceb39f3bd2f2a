/- Of what DecBackRow stands on: RMake. -/
import Derived.Test.YtpmmapoabbpaiaaGreatPay
namespace Go.Proofs.YtpmmapoabbpaiaaGreat
open Go.RowKit
set_option maxHeartbeats 8000000
set_option maxRecDepth 20000
def FrD (e:Int) (s:Bool) (a:Option Addr) (n c:Nat) (a':Option Addr) (n' c':Nat) (s':Bool) (b:Option Addr) (k l:Nat) (b':Option Addr) (k' l':Nat) (r:Int):Prop:=
 (e = 0∧r = 0∧s' = (s && !decide (n = 0))∧b = a∧k = n∧l = c∧b' = a'∧k' = n'∧l' = c')∨(e≠0∧r = e∧s' = false∧b = none∧k = 0∧l = 0∧b' = none∧k' = 0∧l' = 0)
def FrW (w0 W:World) (p:Nat) (e:Int) (bs:List En) (ms:Ms) (os:Os) (s:Bool) (a:Option Addr) (n c:Nat) (a':Option Addr) (n' c':Nat) (en:Ending) (W':World):Prop:=
 (∃ s' b k l b' k' l' r,en = .returned (.tuple #[.agg #[.bool s',.slice b k l,.slice b' k' l'],.int .i64 r])∧FrD e s a n c a' n' c' s' b k l b' k' l' r)∧Rs w0 W' (some (p,e)) bs ms os∧W.heap.size≤W'.heap.size
theorem W_fracD {w0 W:World} {p:Nat} {e:Int} {bs:List En} {ms:Ms} {os:Os} (hS:Rs w0 W (some (p,e)) bs ms os) (s:Bool) (a a':Option Addr) (n n' c c':Nat) :
  Calls Tryz.prog 70 #[.pointer (some ⟨p,0,none⟩),.bool s,.agg #[.slice a n c],.agg #[.slice a' n' c']] W (FrW w0 W p e bs ms os s a n c a' n' c'):=
 (W_frac hS s a a' n n' c c').mono fun _ _ h=>h
theorem make_end {m d M1 N D:Nat} {e1 e2 e3:Int} (hd:0 < d) (q1:Wz 0 e1 M1 (Nat.gcd m d) False) (q2:∃ R,Wd e1 e2 N R m M1) (q3:∃ R,Wd e2 e3 D R d M1) :
  (e3 = 0→N = m / Nat.gcd m d∧D = d / Nat.gcd m d)∧e3 = 0:=by
 obtain ⟨R2,q2⟩:=q2
 obtain ⟨R3,q3⟩:=q3
 have p1:0 < Nat.gcd m d:=Nat.gcd_pos_of_pos_right _ hd
 have s1:Sf e1 False:=q1.next (Or.inl rfl) (fun _ h=>h)
 have f1:e1 = 0→M1 = Nat.gcd m d:=fun h=>(q1.ok h).2
 have s2:=q2.next s1 (fun h=>by rw [f1 h]; exact p1)
 have s3:=q3.next s2 (fun h=>by rw [f1 (q2.ok h).1]; exact p1)
 refine ⟨fun h=>?_,?_⟩
 ·have k:=q3.ok h
  have l:=q2.ok k.1
  rw [f1 l.1] at k l
  exact ⟨l.2.1,k.2.1⟩
 ·rcases s3 with h|⟨_,h⟩
  ·exact h
  ·exact h.elim
structure Mak5S where
 (b0 b1 b2 b3 b4 b5 b6 b7 b8 b9 b10 b11:Bool)
 (v0 v1 v2 v3 v4 v5 v6 v7 v8 v9 v11:Value)
 (A3:Option Addr)
 (N3 C3:Nat)
 (M3:Nat)
 (E3:Int)
 (A6:Option Addr)
 (N6 C6:Nat)
 (M6:Nat)
 (E6:Int)
 (Z7:Bool) (A7:Option Addr) (N7 C7:Nat) (P7:Option Addr) (Q7 R7:Nat) (E7:Int)
 bs9:List En
 os9:Os
structure Mak5R (w:World) (s:Bool) (a a':Option Addr) (n n' c c' m d:Nat) (w3:World) (yA4:Option Addr) (yN4 yC4 yM4:Nat) (yE4:Int) (w4:World) (S9:Nat) (b0 b1 b2 b3 b4 b5 b6 b7 b8 b9 b10 b11:Bool) (v0 v1 v2 v3 v4 v5 v6 v7 v8 v9 v11:Value) (A3:Option Addr) (N3 C3:Nat) (M3:Nat) (E3:Int) (A6:Option Addr) (N6 C6:Nat) (M6:Nat) (E6:Int) (Z7:Bool) (A7:Option Addr) (N7 C7:Nat) (P7:Option Addr) (Q7 R7:Nat) (E7:Int) (bs9:List En) (os9:Os) (w':World):Prop where
 hc:Rc w S9 [⟨w4.heap.size,#[.slice yA4 yN4 yC4],26⟩,⟨w.heap.size+1,#[.slice a' n' c'],26⟩,⟨w.heap.size,#[.slice a n c],26⟩] [(a',n',d),(a,n,m)] [(yA4,yN4,yC4,yM4)] (some ((w3.heap.size),(cond b6 E6 (cond b3 E3 yE4)))) bs9 os9 w'
 f0:b0 = true→v0 = .bool s
 f1:b1 = true→v1 = .agg #[.slice a n c]
 f2:b2 = true→v2 = .agg #[.slice yA4 yN4 yC4]
 f3:b3 = true→v3 = .agg #[.slice A3 N3 C3]∧(A3,N3,C3,M3)∈os9∧(∃ R,Wd yE4 E3 M3 R m yM4)
 f4:b4 = true→v4 = .agg #[.slice a' n' c']
 f5:b5 = true→v5 = .agg #[.slice yA4 yN4 yC4]
 f6:b6 = true→v6 = .agg #[.slice A6 N6 C6]∧(A6,N6,C6,M6)∈os9∧(∃ R,Wd E3 E6 M6 R d yM4)
 f7:b7 = true→v7 = .tuple #[.agg #[.bool Z7,.slice A7 N7 C7,.slice P7 Q7 R7],.int .i64 E7]∧FrD E6 s A3 N3 C3 A6 N6 C6 Z7 A7 N7 C7 P7 Q7 R7 E7
 f8:b8 = true→v8 = .agg #[.bool Z7,.slice A7 N7 C7,.slice P7 Q7 R7]
 f9:b9 = true→v9 = .int .i64 E7
 f11:b11 = true→v11 = .int .i64 E7
 o0_0:b10 = false→⟨w.heap.size+1+1,#[.bool false,.slice none 0 0,.slice none 0 0],28⟩∈bs9
 o0_1:b10 = true→⟨w.heap.size+1+1,#[.bool Z7,.slice A7 N7 C7,.slice P7 Q7 R7],28⟩∈bs9
 g6_3:b6 = true→b3 = true
 g7_3:b7 = true→b3 = true
 g7_6:b7 = true→b6 = true
 g8_7:b8 = true→b7 = true
 g8_3:b8 = true→b3 = true
 g8_6:b8 = true→b6 = true
 g9_7:b9 = true→b7 = true
 g9_3:b9 = true→b3 = true
 g9_6:b9 = true→b6 = true
 g10_8:b10 = true→b8 = true
 g10_7:b10 = true→b7 = true
 g10_3:b10 = true→b3 = true
 g10_6:b10 = true→b6 = true
 g11_7:b11 = true→b7 = true
 g11_3:b11 = true→b3 = true
 g11_6:b11 = true→b6 = true
def Mak5I (w:World) (s:Bool) (a a':Option Addr) (n n' c c' m d:Nat) (w3:World) (yA4:Option Addr) (yN4 yC4 yM4:Nat) (yE4:Int) (w4:World) (S9:Nat) (l:Array Bool) (act:Act) (w':World):Mak5S→Prop
 | ⟨b0,b1,b2,b3,b4,b5,b6,b7,b8,b9,b10,b11,v0,v1,v2,v3,v4,v5,v6,v7,v8,v9,v11,A3,N3,C3,M3,E3,A6,N6,C6,M6,E6,Z7,A7,N7,C7,P7,Q7,R7,E7,bs9,os9⟩=>l = #[b0,b1,b2,b3,b4,b5,b6,b7,b8,b9,b10,b11]∧act = { tmps:=#[.bool s,.agg #[.slice a n c],.agg #[.slice a' n' c'],undef,.pointer (some ⟨w.heap.size,0,none⟩),.pointer (some ⟨w.heap.size+1,0,none⟩),.pointer (some ⟨w.heap.size+1+1,0,none⟩),v11,.int .i64 0,.int .i64 0,.pointer (some ⟨w3.heap.size,0,none⟩),.pointer (some ⟨w4.heap.size,0,none⟩),.agg #[.slice a n c],.int .i64 0,.int .i64 0,.bool false,undef,undef,.agg #[.slice a' n' c'],.int .i64 0,.int .i64 0,.bool false,undef,undef,.agg #[.slice a' n' c'],.bool false,undef,.agg #[.slice a n c],.agg #[.slice a' n' c'],.agg #[.slice yA4 yN4 yC4],v0,v1,v2,v3,v4,v5,v6,v7,v8,v9],defers:=[] }∧Mak5R w s a a' n n' c c' m d w3 yA4 yN4 yC4 yM4 yE4 w4 S9 b0 b1 b2 b3 b4 b5 b6 b7 b8 b9 b10 b11 v0 v1 v2 v3 v4 v5 v6 v7 v8 v9 v11 A3 N3 C3 M3 E3 A6 N6 C6 M6 E6 Z7 A7 N7 C7 P7 Q7 R7 E7 bs9 os9 w'
theorem make_any (s:Bool) (a a':Option Addr) (n n' c c' m d:Nat) (w:World) (h1:Num w a n m) (h2:Num w a' n' d) (hd:0 < d) :
  Calls Tryz.prog 28 #[.bool s,.agg #[.slice a n c],.agg #[.slice a' n' c']] w fun en w'=>RAns w' w.heap.size en s (m / Nat.gcd m d) (d / Nat.gcd m d)∧Below w.heap.size w w':=by
 have hn0:decide (n' = 0) = false:=by rw [decide_eq_false_iff_not]; intro e; have:=h2.zero.1 e; omega
 have hS:=Rs.begin w
 replace hS:=hS.num h1
 replace hS:=hS.num h2
 replace hS:=hS.alloc #[.slice a n c] 26
 try simp only [World.size_alloc] at hS
 replace hS:=hS.alloc #[.slice a' n' c'] 26
 try simp only [World.size_alloc] at hS
 replace hS:=hS.alloc #[.bool false,.slice none 0 0,.slice none 0 0] 28
 try simp only [World.size_alloc] at hS
 go_enter Tryz.func28,Tryz.ntmps28
 go_wp2_with fail
 refine (check_num a n c m _ (hS.nm (a,n,m) (by simp))).mono ?_
 rintro en w1 ⟨rfl,hb9⟩
 have hz1:=hb9.size
 replace hS:=hS.kept hb9
 clear hb9
 simp only [World.size_alloc] at hz1
 obtain ⟨⟨k0_0,-⟩,z0⟩:=hS.cz ⟨w.heap.size+1,#[.slice a' n' c'],26⟩ (by simp)
 have z0_0:=z0 0
 clear z0
 simp only [] at k0_0 z0_0
 go_wp2_with fail
 clear k0_0 z0_0
 refine (check_num a' n' c' d _ (hS.nm (a',n',d) (by simp))).mono ?_
 rintro en w2 ⟨rfl,hb9⟩
 have hz2:=hb9.size
 replace hS:=hS.kept hb9
 clear hb9
 obtain ⟨⟨k0_0,-⟩,z0⟩:=hS.cz ⟨w.heap.size+1,#[.slice a' n' c'],26⟩ (by simp)
 have z0_0:=z0 0
 clear z0
 simp only [] at k0_0 z0_0
 go_wp2_with fail
 clear k0_0 z0_0
 refine (nought_any a' n' c' _).mono ?_
 rintro en w3 ⟨rfl,hb9⟩
 have hz3:=hb9.size
 replace hS:=hS.kept hb9
 clear hb9
 rw [hn0]
 obtain ⟨⟨k0_0,-⟩,z0⟩:=hS.cz ⟨w.heap.size+1,#[.slice a' n' c'],26⟩ (by simp)
 have z0_0:=z0 0
 clear z0
 obtain ⟨⟨k1_0,-⟩,z1⟩:=hS.cz ⟨w.heap.size,#[.slice a n c],26⟩ (by simp)
 have z1_0:=z1 0
 clear z1
 simp only [] at k0_0 z0_0 k1_0 z1_0
 replace hS:=hS.work
 try simp only [World.size_alloc] at hS
 have kw0_0:=hS.cellAt (x:=⟨w.heap.size+1+1,#[.bool false,.slice none 0 0,.slice none 0 0],28⟩) (by simp) 0 (.bool false) rfl
 have kw0_1:=hS.cellAt (x:=⟨w.heap.size+1+1,#[.bool false,.slice none 0 0,.slice none 0 0],28⟩) (by simp) 1 (.slice none 0 0) rfl
 have kw0_2:=hS.cellAt (x:=⟨w.heap.size+1+1,#[.bool false,.slice none 0 0,.slice none 0 0],28⟩) (by simp) 2 (.slice none 0 0) rfl
 have kw1_0:=hS.cellAt (x:=⟨w.heap.size+1,#[.slice a' n' c'],26⟩) (by simp) 0 (.slice a' n' c') rfl
 have kw2_0:=hS.cellAt (x:=⟨w.heap.size,#[.slice a n c],26⟩) (by simp) 0 (.slice a n c) rfl
 simp only [] at kw0_0 kw0_1 kw0_2 kw1_0 kw2_0
 go_wp2_with fail
 clear k0_0 z0_0 k1_0 z1_0
 clear kw0_0 kw0_1 kw0_2 kw1_0 kw2_0
 refine (W_gcd hS c c' (hS.nm (a,n,m) (by simp)) (hS.nm (a',n',d) (by simp))).mono ?_
 clear hS; rintro en w4 ⟨yA4,yN4,yC4,yM4,yE4,rfl,hS,q4,hz4⟩
 have Q4:=hide q4
 clear q4
 simp only [World.size_alloc] at hz4
 replace hS:=hS.alloc #[.slice yA4 yN4 yC4] 26
 try simp only [World.size_alloc] at hS
 go_wp2_with fail
 refine wp_region_any (by kernel_rfl) ?_
 change wpAny _ _ _ _ _ _ _ (World.drew _)
 have hS9:=hS.drew
 have hsW9:(World.drew (w4.alloc (.cells #[.slice yA4 yN4 yC4] 26))).heap.size = w4.heap.size+1:=by first|rfl|simp
 generalize World.drew (w4.alloc (.cells #[.slice yA4 yN4 yC4] 26)) = Wd at hS9 hsW9 ⊢
 obtain ⟨S9,hS9z⟩:∃ x,x = Wd.heap.size:=⟨_,rfl⟩
 have hC9:=Rc.start (bs:=[⟨w4.heap.size,#[.slice yA4 yN4 yC4],26⟩,⟨w.heap.size+1,#[.slice a' n' c'],26⟩,⟨w.heap.size,#[.slice a n c],26⟩]) hS9 (by simp)
 rw [← hS9z] at hC9
 have hP9_0:=hS9.bx ⟨w.heap.size+1+1,#[.bool false,.slice none 0 0,.slice none 0 0],28⟩ (by simp)
 have hP9_0:=block_lt hP9_0.1
 rw [← hS9z] at hP9_0
 simp only [] at hP9_0
 refine wpAny_inv (fun l act w'=>∃ σ,Mak5I w s a a' n n' c c' m d w3 yA4 yN4 yC4 yM4 yE4 w4 S9 l act w' σ) ?_ ?_ _ _ _ _ ?_ ?_
 ·intro l act w' i9 hI9 hi9 hl9
  have hin9:i9 < 12:=by
   by_cases h:i9 < 12
   ·exact h
   ·obtain ⟨⟨⟩,rfl,_⟩:=hI9
    rw [Array.getElem?_eq_none (by simp; omega)] at hl9; cases hl9
  have hcase:i9 = 0∨i9 = 1∨i9 = 2∨i9 = 3∨i9 = 4∨i9 = 5∨i9 = 6∨i9 = 7∨i9 = 8∨i9 = 9∨i9 = 10∨i9 = 11:=by omega
  clear hin9
  obtain ⟨⟨b0,b1,b2,b3,b4,b5,b6,b7,b8,b9,b10,b11,v0,v1,v2,v3,v4,v5,v6,v7,v8,v9,v11,A3,N3,C3,M3,E3,A6,N6,C6,M6,E6,Z7,A7,N7,C7,P7,Q7,R7,E7,bs9,os9⟩,rfl,rfl,hR⟩:=hI9
  rcases hcase with rfl|rfl|rfl|rfl|rfl|rfl|rfl|rfl|rfl|rfl|rfl|rfl
  ·obtain rfl:b0 = false:=by simpa using hl9
   have hc:=hR.hc
   refine wpOp_step rfl fun K hK=>?_
   go_simp
   exact hK _ _ ⟨⟨_,_,_,_,_,_,_,_,_,_,_,_,_,_,_,_,_,_,_,_,_,_,_,A3,N3,C3,M3,E3,A6,N6,C6,M6,E6,Z7,A7,N7,C7,P7,Q7,R7,E7,_,_⟩,rfl,rfl,{ hR with hc:=hc,f0:=(fun _=>rfl) }⟩
  ·obtain rfl:b1 = false:=by simpa using hl9
   have hc:=hR.hc
   have c9_0:=hc.st.cellAt (hc.old ⟨w.heap.size,#[.slice a n c],26⟩ (by simp)).1 0 (.slice a n c) rfl
   simp only [] at c9_0
   refine wpOp_step rfl fun K hK=>?_
   go_simp
   exact hK _ _ ⟨⟨_,_,_,_,_,_,_,_,_,_,_,_,_,_,_,_,_,_,_,_,_,_,_,A3,N3,C3,M3,E3,A6,N6,C6,M6,E6,Z7,A7,N7,C7,P7,Q7,R7,E7,_,_⟩,rfl,rfl,{ hR with hc:=hc,f1:=(fun _=>rfl) }⟩
  ·obtain rfl:b2 = false:=by simpa using hl9
   have hc:=hR.hc
   have c9_0:=hc.st.cellAt (hc.old ⟨w4.heap.size,#[.slice yA4 yN4 yC4],26⟩ (by simp)).1 0 (.slice yA4 yN4 yC4) rfl
   simp only [] at c9_0
   refine wpOp_step rfl fun K hK=>?_
   go_simp
   exact hK _ _ ⟨⟨_,_,_,_,_,_,_,_,_,_,_,_,_,_,_,_,_,_,_,_,_,_,_,A3,N3,C3,M3,E3,A6,N6,C6,M6,E6,Z7,A7,N7,C7,P7,Q7,R7,E7,_,_⟩,rfl,rfl,{ hR with hc:=hc,f2:=(fun _=>rfl) }⟩
  ·obtain rfl:b3 = false:=by simpa using hl9
   obtain ⟨o9,ho9,hd9⟩:=(mem_ready.1 hi9).2
   cases ho9
   have e1:b1 = true:=hd9 ⟨1,.data⟩ (by simp) rfl
   have e2:b2 = true:=hd9 ⟨2,.data⟩ (by simp) rfl
   subst e1 e2
   have h9:=hR.f1 rfl
   subst h9
   have h9:=hR.f2 rfl
   subst h9
   have hc:=hR.hc
   obtain rfl:b6 = false:=by cases h:b6; rfl; exact Bool.noConfusion (hR.g6_3 h)
   simp only [cond_false] at hc
   have HR:=hide hR
   clear hR
   refine wpOp_step rfl fun K hK=>?_
   go_simp
   go_wp2_with fail
   refine (W_over hc.st c yC4 (hc.st.nm (a,n,m) (by simp)) (hc.st.ow (yA4,yN4,yC4,yM4) (hc.oso _ (by simp))).num).mono ?_
   rintro en w9 ⟨a9,n9,c9,m9,e9,rfl,hs9,hz,hz9⟩
   have hR:=unhide HR
   exact hK _ _ ⟨⟨_,_,_,_,_,_,_,_,_,_,_,_,_,_,_,_,_,_,_,_,_,_,_,_,_,_,_,_,A6,N6,C6,M6,E6,Z7,A7,N7,C7,P7,Q7,R7,E7,_,_⟩,rfl,rfl,{ hR with hc:=(hc.call hs9 hz9 (fun y hy=>List.mem_cons_of_mem _ hy)),f3:=(fun _=>⟨rfl,List.mem_cons_self ..,hz⟩),f6:=(fun h=>Bool.noConfusion (hR.g6_3 h)),f7:=(fun h=>Bool.noConfusion (hR.g7_3 h)),f8:=(fun h=>Bool.noConfusion (hR.g8_3 h)),f9:=(fun h=>Bool.noConfusion (hR.g9_3 h)),f11:=(fun h=>Bool.noConfusion (hR.g11_3 h)),o0_1:=(fun h=>Bool.noConfusion (hR.g10_3 h)),g6_3:=(fun _=>rfl),g7_3:=(fun _=>rfl),g8_3:=(fun _=>rfl),g9_3:=(fun _=>rfl),g10_3:=(fun _=>rfl),g11_3:=(fun _=>rfl) }⟩
  ·obtain rfl:b4 = false:=by simpa using hl9
   have hc:=hR.hc
   have c9_0:=hc.st.cellAt (hc.old ⟨w.heap.size+1,#[.slice a' n' c'],26⟩ (by simp)).1 0 (.slice a' n' c') rfl
   simp only [] at c9_0
   refine wpOp_step rfl fun K hK=>?_
   go_simp
   exact hK _ _ ⟨⟨_,_,_,_,_,_,_,_,_,_,_,_,_,_,_,_,_,_,_,_,_,_,_,A3,N3,C3,M3,E3,A6,N6,C6,M6,E6,Z7,A7,N7,C7,P7,Q7,R7,E7,_,_⟩,rfl,rfl,{ hR with hc:=hc,f4:=(fun _=>rfl) }⟩
  ·obtain rfl:b5 = false:=by simpa using hl9
   have hc:=hR.hc
   have c9_0:=hc.st.cellAt (hc.old ⟨w4.heap.size,#[.slice yA4 yN4 yC4],26⟩ (by simp)).1 0 (.slice yA4 yN4 yC4) rfl
   simp only [] at c9_0
   refine wpOp_step rfl fun K hK=>?_
   go_simp
   exact hK _ _ ⟨⟨_,_,_,_,_,_,_,_,_,_,_,_,_,_,_,_,_,_,_,_,_,_,_,A3,N3,C3,M3,E3,A6,N6,C6,M6,E6,Z7,A7,N7,C7,P7,Q7,R7,E7,_,_⟩,rfl,rfl,{ hR with hc:=hc,f5:=(fun _=>rfl) }⟩
  ·obtain rfl:b6 = false:=by simpa using hl9
   obtain ⟨o9,ho9,hd9⟩:=(mem_ready.1 hi9).2
   cases ho9
   have e4:b4 = true:=hd9 ⟨4,.data⟩ (by simp) rfl
   have e5:b5 = true:=hd9 ⟨5,.data⟩ (by simp) rfl
   have e3:b3 = true:=hd9 ⟨3,.chain⟩ (by simp) rfl
   subst e4 e5 e3
   have h9:=hR.f4 rfl
   subst h9
   have h9:=hR.f5 rfl
   subst h9
   have q3:=hR.f3 rfl
   obtain ⟨h9,q3m,q3z⟩:=q3
   subst h9
   have hc:=hR.hc
   simp only [cond_true,cond_false] at hc
   have HR:=hide hR
   clear hR
   refine wpOp_step rfl fun K hK=>?_
   go_simp
   go_wp2_with fail
   refine (W_over hc.st c' yC4 (hc.st.nm (a',n',d) (by simp)) (hc.st.ow (yA4,yN4,yC4,yM4) (hc.oso _ (by simp))).num).mono ?_
   rintro en w9 ⟨a9,n9,c9,m9,e9,rfl,hs9,hz,hz9⟩
   have hR:=unhide HR
   exact hK _ _ ⟨⟨_,_,_,_,_,_,_,_,_,_,_,_,_,_,_,_,_,_,_,_,_,_,_,A3,N3,C3,M3,E3,_,_,_,_,_,Z7,A7,N7,C7,P7,Q7,R7,E7,_,_⟩,rfl,rfl,{ hR with hc:=(hc.call hs9 hz9 (fun y hy=>List.mem_cons_of_mem _ hy)),f3:=(fun h=>⟨(hR.f3 h).1,List.mem_cons_of_mem _ (hR.f3 h).2.1,(hR.f3 h).2.2⟩),f6:=(fun _=>⟨rfl,List.mem_cons_self ..,hz⟩),f7:=(fun h=>Bool.noConfusion (hR.g7_6 h)),f8:=(fun h=>Bool.noConfusion (hR.g8_6 h)),f9:=(fun h=>Bool.noConfusion (hR.g9_6 h)),f11:=(fun h=>Bool.noConfusion (hR.g11_6 h)),o0_1:=(fun h=>Bool.noConfusion (hR.g10_6 h)),g6_3:=(fun _=>rfl),g7_6:=(fun _=>rfl),g8_6:=(fun _=>rfl),g9_6:=(fun _=>rfl),g10_6:=(fun _=>rfl),g11_6:=(fun _=>rfl) }⟩
  ·obtain rfl:b7 = false:=by simpa using hl9
   obtain ⟨o9,ho9,hd9⟩:=(mem_ready.1 hi9).2
   cases ho9
   have e0:b0 = true:=hd9 ⟨0,.data⟩ (by simp) rfl
   have e3:b3 = true:=hd9 ⟨3,.data⟩ (by simp) rfl
   have e6:b6 = true:=hd9 ⟨6,.data⟩ (by simp) rfl
   subst e0 e3 e6
   have h9:=hR.f0 rfl
   subst h9
   have q3:=hR.f3 rfl
   obtain ⟨h9,q3m,q3z⟩:=q3
   subst h9
   have q6:=hR.f6 rfl
   obtain ⟨h9,q6m,q6z⟩:=q6
   subst h9
   have hc:=hR.hc
   simp only [cond_true] at hc
   have HR:=hide hR
   clear hR
   refine wpOp_step rfl fun K hK=>?_
   go_simp
   go_wp2_with fail
   refine (W_fracD hc.st (s) A3 A6 N3 N6 C3 C6).mono ?_
   rintro en w9 ⟨⟨s9,b9,k9,l9,b8,k8,l8,r9,rfl,hd9⟩,hs9,hz9⟩
   have hR:=unhide HR
   exact hK _ _ ⟨⟨_,_,_,_,_,_,_,_,_,_,_,_,_,_,_,_,_,_,_,_,_,_,_,A3,N3,C3,M3,E3,A6,N6,C6,M6,E6,_,_,_,_,_,_,_,_,_,_⟩,rfl,rfl,{ hR with hc:=(hc.call hs9 hz9 (fun y hy=>hy)),f7:=(fun _=>⟨rfl,hd9⟩),f8:=(fun h=>Bool.noConfusion (hR.g8_7 h)),f9:=(fun h=>Bool.noConfusion (hR.g9_7 h)),f11:=(fun h=>Bool.noConfusion (hR.g11_7 h)),o0_1:=(fun h=>Bool.noConfusion (hR.g10_7 h)),g7_3:=(fun _=>rfl),g7_6:=(fun _=>rfl),g8_7:=(fun _=>rfl),g9_7:=(fun _=>rfl),g10_7:=(fun _=>rfl),g11_7:=(fun _=>rfl) }⟩
  ·obtain rfl:b8 = false:=by simpa using hl9
   obtain ⟨o9,ho9,hd9⟩:=(mem_ready.1 hi9).2
   cases ho9
   have e7:b7 = true:=hd9 ⟨7,.data⟩ (by simp) rfl
   subst e7
   have q7:=hR.f7 rfl
   obtain ⟨h9,q7m⟩:=q7
   subst h9
   have hc:=hR.hc
   refine wpOp_step rfl fun K hK=>?_
   go_simp
   exact hK _ _ ⟨⟨_,_,_,_,_,_,_,_,_,_,_,_,_,_,_,_,_,_,_,_,_,_,_,A3,N3,C3,M3,E3,A6,N6,C6,M6,E6,Z7,A7,N7,C7,P7,Q7,R7,E7,_,_⟩,rfl,rfl,{ hR with hc:=hc,f8:=(fun _=>rfl),o0_1:=(fun h=>Bool.noConfusion (hR.g10_8 h)),g8_7:=(fun _=>rfl),g8_3:=(fun _=>hR.g7_3 rfl),g8_6:=(fun _=>hR.g7_6 rfl),g10_8:=(fun _=>rfl) }⟩
  ·obtain rfl:b9 = false:=by simpa using hl9
   obtain ⟨o9,ho9,hd9⟩:=(mem_ready.1 hi9).2
   cases ho9
   have e7:b7 = true:=hd9 ⟨7,.data⟩ (by simp) rfl
   subst e7
   have q7:=hR.f7 rfl
   obtain ⟨h9,q7m⟩:=q7
   subst h9
   have hc:=hR.hc
   refine wpOp_step rfl fun K hK=>?_
   go_simp
   exact hK _ _ ⟨⟨_,_,_,_,_,_,_,_,_,_,_,_,_,_,_,_,_,_,_,_,_,_,_,A3,N3,C3,M3,E3,A6,N6,C6,M6,E6,Z7,A7,N7,C7,P7,Q7,R7,E7,_,_⟩,rfl,rfl,{ hR with hc:=hc,f9:=(fun _=>rfl),g9_7:=(fun _=>rfl),g9_3:=(fun _=>hR.g7_3 rfl),g9_6:=(fun _=>hR.g7_6 rfl) }⟩
  ·obtain rfl:b10 = false:=by simpa using hl9
   obtain ⟨o9,ho9,hd9⟩:=(mem_ready.1 hi9).2
   cases ho9
   have e8:b8 = true:=hd9 ⟨8,.data⟩ (by simp) rfl
   subst e8
   obtain rfl:b7 = true:=hR.g8_7 rfl
   have q7:=hR.f7 rfl
   obtain ⟨h9,q7m⟩:=q7
   subst h9
   obtain rfl:b3 = true:=hR.g8_3 rfl
   have q3:=hR.f3 rfl
   obtain ⟨h9,q3m,q3z⟩:=q3
   subst h9
   obtain rfl:b6 = true:=hR.g8_6 rfl
   have q6:=hR.f6 rfl
   obtain ⟨h9,q6m,q6z⟩:=q6
   subst h9
   have h9:=hR.f8 rfl
   subst h9
   have hc:=hR.hc
   have hm9:=hR.o0_0 rfl
   have fz9_0:=hc.st.frozen hm9 0
   have cz9_0:=hc.st.cellAt hm9 0 (.bool false) rfl
   simp only [] at fz9_0 cz9_0
   have fz9_1:=hc.st.frozen hm9 1
   have cz9_1:=hc.st.cellAt hm9 1 (.slice none 0 0) rfl
   simp only [] at fz9_1 cz9_1
   have fz9_2:=hc.st.frozen hm9 2
   have cz9_2:=hc.st.cellAt hm9 2 (.slice none 0 0) rfl
   simp only [] at fz9_2 cz9_2
   have hn9:∀ x,x∈([⟨w4.heap.size,#[.slice yA4 yN4 yC4],26⟩,⟨w.heap.size+1,#[.slice a' n' c'],26⟩,⟨w.heap.size,#[.slice a n c],26⟩]:List En)→x.b≠w.heap.size+1+1:=by intro x hx; rcases List.mem_cons.1 hx with rfl|hx; (simp only []; omega); rcases List.mem_cons.1 hx with rfl|hx; (simp only []; omega); rcases List.mem_cons.1 hx with rfl|hx; (simp only []; omega);  exact absurd hx List.not_mem_nil
   have hw9:w.heap.size≤w.heap.size+1+1:=by omega
   refine wpOp_step rfl fun K hK=>?_
   go_simp
   exact hK _ _ ⟨⟨_,_,_,_,_,_,_,_,_,_,_,_,_,_,_,_,_,_,_,_,_,_,_,A3,N3,C3,M3,E3,A6,N6,C6,M6,E6,Z7,A7,N7,C7,P7,Q7,R7,E7,_,_⟩,rfl,rfl,{ hR with hc:=(((hc.store hm9 hw9 hn9 0 (.bool Z7) (by simp)).store (List.mem_cons_self ..) hw9 hn9 1 (.slice A7 N7 C7) (by simp)).store (List.mem_cons_self ..) hw9 hn9 2 (.slice P7 Q7 R7) (by simp)),o0_0:=(fun h=>Bool.noConfusion h),o0_1:=(fun _=>List.mem_cons_self ..),g10_8:=(fun _=>rfl),g10_7:=(fun _=>rfl),g10_3:=(fun _=>rfl),g10_6:=(fun _=>rfl) }⟩
  ·obtain rfl:b11 = false:=by simpa using hl9
   obtain ⟨o9,ho9,hd9⟩:=(mem_ready.1 hi9).2
   cases ho9
   have e9:b9 = true:=hd9 ⟨9,.data⟩ (by simp) rfl
   subst e9
   obtain rfl:b7 = true:=hR.g9_7 rfl
   have q7:=hR.f7 rfl
   obtain ⟨h9,q7m⟩:=q7
   subst h9
   obtain rfl:b3 = true:=hR.g9_3 rfl
   have q3:=hR.f3 rfl
   obtain ⟨h9,q3m,q3z⟩:=q3
   subst h9
   obtain rfl:b6 = true:=hR.g9_6 rfl
   have q6:=hR.f6 rfl
   obtain ⟨h9,q6m,q6z⟩:=q6
   subst h9
   have h9:=hR.f9 rfl
   subst h9
   have hc:=hR.hc
   refine wpOp_step rfl fun K hK=>?_
   go_simp
   exact hK _ _ ⟨⟨_,_,_,_,_,_,_,_,_,_,_,_,_,_,_,_,_,_,_,_,_,_,_,A3,N3,C3,M3,E3,A6,N6,C6,M6,E6,Z7,A7,N7,C7,P7,Q7,R7,E7,_,_⟩,rfl,rfl,{ hR with hc:=hc,f11:=(fun _=>rfl),g11_7:=(fun _=>rfl),g11_3:=(fun _=>rfl),g11_6:=(fun _=>rfl) }⟩
 ·rintro l act Wq5 ⟨⟨b0,b1,b2,b3,b4,b5,b6,b7,b8,b9,b10,b11,v0,v1,v2,v3,v4,v5,v6,v7,v8,v9,v11,x5_A3,x5_N3,x5_C3,x5_M3,x5_E3,x5_A6,x5_N6,x5_C6,x5_M6,x5_E6,x5_Z7,x5_A7,x5_N7,x5_C7,x5_P7,x5_Q7,x5_R7,x5_E7,bs9,os9⟩,rfl,rfl,hR⟩ hr9
  obtain ⟨hc,f0,f1,f2,f3,f4,f5,f6,f7,f8,f9,f11,o0_0,o0_1,g6_3,g7_3,g7_6,g8_7,g8_3,g8_6,g9_7,g9_3,g9_6,g10_8,g10_7,g10_3,g10_6,g11_7,g11_3,g11_6⟩:=hR
  have eall:=all_done hr9 (by kernel_rfl) rfl
  obtain rfl:b0 = true:=eall 0 (by decide)
  obtain rfl:b1 = true:=eall 1 (by decide)
  obtain rfl:b2 = true:=eall 2 (by decide)
  obtain rfl:b3 = true:=eall 3 (by decide)
  obtain rfl:b4 = true:=eall 4 (by decide)
  obtain rfl:b5 = true:=eall 5 (by decide)
  obtain rfl:b6 = true:=eall 6 (by decide)
  obtain rfl:b7 = true:=eall 7 (by decide)
  obtain rfl:b8 = true:=eall 8 (by decide)
  obtain rfl:b9 = true:=eall 9 (by decide)
  obtain rfl:b10 = true:=eall 10 (by decide)
  obtain rfl:b11 = true:=eall 11 (by decide)
  clear hr9 eall
  have h9:=f0 rfl
  subst h9
  have h9:=f1 rfl
  subst h9
  have h9:=f2 rfl
  subst h9
  obtain ⟨h9,q3m,qx5_3⟩:=f3 rfl
  subst h9
  have h9:=f4 rfl
  subst h9
  have h9:=f5 rfl
  subst h9
  obtain ⟨h9,q6m,qx5_6⟩:=f6 rfl
  subst h9
  obtain ⟨h9,qx5_7⟩:=f7 rfl
  subst h9
  have h9:=f8 rfl
  subst h9
  have h9:=f9 rfl
  subst h9
  have h9:=f11 rfl
  subst h9
  simp only [cond_true] at hc
  have hbs9:∀ x,x∈([⟨w.heap.size+1+1,#[.bool x5_Z7,.slice x5_A7 x5_N7 x5_C7,.slice x5_P7 x5_Q7 x5_R7],28⟩,⟨w4.heap.size,#[.slice yA4 yN4 yC4],26⟩,⟨w.heap.size+1,#[.slice a' n' c'],26⟩,⟨w.heap.size,#[.slice a n c],26⟩]:List En)→x∈bs9:=by
   intro x hx
   rcases List.mem_cons.1 hx with rfl|hx
   ·exact (o0_1 rfl)
   rcases List.mem_cons.1 hx with rfl|hx
   ·exact (hc.old _ (by simp)).1
   rcases List.mem_cons.1 hx with rfl|hx
   ·exact (hc.old _ (by simp)).1
   rcases List.mem_cons.1 hx with rfl|hx
   ·exact (hc.old _ (by simp)).1
   exact absurd hx List.not_mem_nil
  have hos9:∀ x,x∈([(x5_A3,x5_N3,x5_C3,x5_M3),(x5_A6,x5_N6,x5_C6,x5_M6),(yA4,yN4,yC4,yM4)]:Os)→x∈os9:=by
   intro x hx
   rcases List.mem_cons.1 hx with rfl|hx
   ·exact q3m
   rcases List.mem_cons.1 hx with rfl|hx
   ·exact q6m
   rcases List.mem_cons.1 hx with rfl|hx
   ·exact hc.oso _ (by simp)
   exact absurd hx List.not_mem_nil
  have hS:=hc.st.sub hbs9 (fun x hx=>hx) hos9
  have hsz9:=hc.sz
  rw [hS9z,hsW9] at hsz9
  clear hbs9 hos9 hc f0 f1 f2 f3 f4 f5 f6 f7 f8 f9 f11 o0_0 o0_1 g6_3 g7_3 g7_6 g8_7 g8_3 g8_6 g9_7 g9_3 g9_6 g10_8 g10_7 g10_3 g10_6 g11_7 g11_3 g11_6
  clear q3m q6m
  have hz5:=hsz9
  clear hsz9 hS9z hS9 hC9 hsW9
  have Qx5_3:=hide qx5_3
  clear qx5_3
  have Qx5_6:=hide qx5_6
  clear qx5_6
  have Qx5_7:=hide qx5_7
  clear qx5_7
  obtain ⟨⟨k0_0,k0_1,k0_2,-⟩,z0⟩:=hS.cz ⟨w.heap.size+1+1,#[.bool x5_Z7,.slice x5_A7 x5_N7 x5_C7,.slice x5_P7 x5_Q7 x5_R7],28⟩ (by simp)
  have z0_0:=z0 0
  have z0_1:=z0 1
  have z0_2:=z0 2
  clear z0
  simp only [] at k0_0 z0_0 k0_1 z0_1 k0_2 z0_2
  go_wp2
  have hend:=make_end hd (unhide Q4) (unhide Qx5_3) (unhide Qx5_6)
  have q7:=unhide Qx5_7
  have o1:=hS.ow (x5_A3,x5_N3,x5_C3,x5_M3) (by simp)
  have o2:=hS.ow (x5_A6,x5_N6,x5_C6,x5_M6) (by simp)
  have hbel:=But.gr (B:=w.heap.size) (gr_refl w) hS.fr (by omega) (Nat.le_refl _)
  refine bodyPost_ret (v:=.tuple #[.agg #[.bool x5_Z7,.slice x5_A7 x5_N7 x5_C7,.slice x5_P7 x5_Q7 x5_R7],.int .i64 x5_E7]) (by simp [results,Tryz.results28,go_sem,k0_0,k0_1,k0_2]) rfl ⟨?_,hbel⟩
  rcases q7 with ⟨h0,e1,e2,e3,e4,e5,e6,e7,e8⟩|⟨h0,e1,e2,e3,e4,e5,e6,e7,e8⟩
  ·obtain ⟨f1,f2⟩:=hend.1 h0
   have hz1:=o1.num.zero
   simp only [] at o1 o2 hz1
   rw [f1] at o1 hz1
   rw [f2] at o2
   rw [e1,e2,e3,e4,e5,e6,e7,e8]
   refine Or.inl ⟨_,_,_,_,_,_,?_,o1,o2⟩
   rw [show decide (x5_N3 = 0) = decide (_ = 0) from decide_eq_decide.2 hz1]
   all_goals rfl
  ·exact absurd (hend.2) h0
 ·simp
 ·exact ⟨⟨false,false,false,false,false,false,false,false,false,false,false,false,undef,undef,undef,undef,undef,undef,undef,undef,undef,undef,.int .i64 0,none,0,0,0,0,none,0,0,0,0,false,none,0,0,none,0,0,0,_,_⟩,rfl,rfl,⟨hC9,nb,nb,nb,nb,nb,nb,nb,nb,nb,nb,nb,(fun _=>by simp),nb,nb,nb,nb,nb,nb,nb,nb,nb,nb,nb,nb,nb,nb,nb,nb,nb⟩⟩
end Go.Proofs.YtpmmapoabbpaiaaGreat
