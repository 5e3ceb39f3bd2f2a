/- Of what RoundIntegerRow stands on: RdCut2. -/
import Derived.Test.YtfjegmlpkiaifaaGreatDoorPao
import Derived.Test.YtfjegmlpkiaifaaGreatDoorPax
namespace Go.Proofs.YtfjegmlpkiaifaaGreatDoor
open Go.RowKit
set_option maxHeartbeats 4000000
set_option maxRecDepth 20000
structure Cut3S where
 (b0 b1 b2 b3 b4 b5 b6 b7 b8 b9 b10 b11:Bool)
 (v0 v1 v2 v3 v4 v5 v6 v7 v8 v9 v10:Value)
 bs9:List En
 os9:Os
structure Cut3R (w:World) (s:Bool) (a:Option Addr) (n cap m:Nat) (z:Int) (dr q mode:Nat) (o:Bool) (hf:Int) (yA1:Option Addr) (yN1 yC1:Nat) (w1:World) (S9:Nat) (b0 b1 b2 b3 b4 b5 b6 b7 b8 b9 b10 b11:Bool) (v0 v1 v2 v3 v4 v5 v6 v7 v8 v9 v10:Value)  (bs9:List En) (os9:Os) (w':World):Prop where
 hc:Rc w S9 [⟨w.heap.size,#[.bool s,.slice a n cap,.int .i64 z],61⟩] [(a,n,m)] [] none bs9 os9 w'
 f0:b0 = true→v0 = .pointer (some ⟨w.heap.size,0,none⟩)
 f1:b1 = true→v1 = .bool s
 f2:b2 = true→v2 = .int .u64 (q:Int)
 f3:b3 = true→v3 = .int .u64 ((q % 2:Nat):Int)
 f4:b4 = true→v4 = .bool o
 f5:b5 = true→v5 = .pointer (some ⟨w.heap.size,1,none⟩)
 f6:b6 = true→v6 = .agg #[.slice a n cap]
 f7:b7 = true→v7 = .int .i64 (dr:Int)
 f8:b8 = true→v8 = .int .i64 hf
 f9:b9 = true→v9 = .agg #[.bool s,.bool o,.int .i64 hf]
 f10:b10 = true→AlN bs9 S9 v10 87 3
 f11:b11 = true→StN bs9 S9 v10 #[.bool s,.bool o,.int .i64 hf] 87
 g11_10:b11 = true→b10 = true
 g11_9:b11 = true→b9 = true
def Cut3I (w:World) (s:Bool) (a:Option Addr) (n cap m:Nat) (z:Int) (dr q mode:Nat) (o:Bool) (hf:Int) (yA1:Option Addr) (yN1 yC1:Nat) (w1:World) (S9:Nat) (l:Array Bool) (act:Act) (w':World):Cut3S→Prop
 | ⟨b0,b1,b2,b3,b4,b5,b6,b7,b8,b9,b10,b11,v0,v1,v2,v3,v4,v5,v6,v7,v8,v9,v10,bs9,os9⟩=>l = #[b0,b1,b2,b3,b4,b5,b6,b7,b8,b9,b10,b11]∧act = { tmps:=#[.agg #[.bool s,.slice a n cap,.int .i64 z],.int .i64 (z+(dr:Int)),.int .u8 (mode:Int),.pointer (some ⟨w.heap.size,0,none⟩),undef,undef,.int .u64 (q:Int),.bool false,.int .i64 (dr:Int),.pointer (some ⟨w1.heap.size,0,none⟩),.int .i64 0,v10,.int .i64 (z+(dr:Int)),.pointer (some ⟨w.heap.size,2,none⟩),.int .i64 z,.int .i64 (dr:Int),.int .i64 (dr:Int),.bool false,undef,undef,undef,undef,undef,undef,undef,undef,undef,undef,.tuple #[.agg #[.slice yA1 yN1 yC1],.int .i64 0],.pointer (some ⟨w.heap.size,1,none⟩),.agg #[.slice a n cap],.int .i64 (dr:Int),.tuple #[.agg #[.slice yA1 yN1 yC1],.int .i64 0],.agg #[.slice yA1 yN1 yC1],.int .i64 0,.tuple #[.int .u64 (q:Int),.bool true],.agg #[.slice yA1 yN1 yC1],.tuple #[.int .u64 (q:Int),.bool true],.int .u64 (q:Int),.bool true,v0,v1,v2,v3,v4,v5,v6,v7,v8,v9,undef,undef,undef,undef,undef,undef],defers:=[] }∧Cut3R w s a n cap m z dr q mode o hf yA1 yN1 yC1 w1 S9 b0 b1 b2 b3 b4 b5 b6 b7 b8 b9 b10 b11 v0 v1 v2 v3 v4 v5 v6 v7 v8 v9 v10 bs9 os9 w'
theorem cut_to (up:Bool) (w:World) (s:Bool) (a:Option Addr) (n cap m:Nat) (z:Int) (dr q mode:Nat) (o:Bool) (hf:Int) (h:Num w a n m) (hdr:0 < dr) (hdr2:dr < 4611686018427387904) (hq:q < 9223372036854775808) (hand:bits BinOp.and .u64 (q:Int) 1 = ((q % 2:Nat):Int)) (ho:(((q % 2:Nat):Int) == 1) = o) (HD:Hid (∀ W:World,Num W a n m→Calls Tryz.prog 119 #[.agg #[.slice a n cap],.int .i64 (dr:Int)] W fun en W'=>(∃ a n c,en = .returned (.tuple #[.agg #[.slice a n c],.int .i64 0])∧Mine W' W.heap.size a n c q)∧Below W.heap.size W W')) (HH:Hid (∀ (W:World) (A:Option Addr) (N C:Nat),Num W A N m→Calls Tryz.prog 124 #[.agg #[.slice A N C],.int .i64 (dr:Int)] W fun en W'=>en = .returned (.int .i64 hf)∧Below W.heap.size W W')) (HF:Hid (∀ W:World,Calls Tryz.prog 39 #[.agg #[.bool s,.bool o,.int .i64 hf],.int .u8 (mode:Int)] W fun en W'=>en = .returned (.bool up)∧Below W.heap.size W W')) :
  Calls Tryz.prog 87 #[.agg #[.bool s,.slice a n cap,.int .i64 z],.int .i64 (z+(dr:Int)),.int .u8 (mode:Int)] w fun en w'=>en = .returned (.tuple #[.int .u64 ((q+cond up 1 0:Nat):Int),.bool false])∧Below w.heap.size w w':=by
 have e1:z+(dr:Int) - z = (dr:Int):=by omega
 have e2:¬ ((dr:Int)≤0):=by omega
 have e3:IntKind.u64.wrap ((q:Int)+1) = ((q+1:Nat):Int):=by rw [show ((q:Int)+1) = ((q+1:Nat):Int) from by omega,IntKind.wrap_u64]; omega
 have hS:=Rs.begin w
 replace hS:=hS.num h
 replace hS:=hS.alloc #[.bool s,.slice a n cap,.int .i64 z] 61
 try simp only [World.size_alloc] at hS
 go_enter Tryz.func87,Tryz.ntmps87
 go_wp2_with fail
 refine (W_oft hS (unhide HD _ (hS.nm (a,n,m) (by simp)))).mono ?_
 clear hS; rintro en w1 ⟨yA1,yN1,yC1,rfl,hS,hz1⟩
 simp only [World.size_alloc] at hz1
 replace hS:=hS.alloc #[.slice yA1 yN1 yC1] 26
 try simp only [World.size_alloc] at hS
 go_wp2_with fail
 refine (low_small yA1 yN1 yC1 q _ (hS.ow (yA1,yN1,yC1,q) (by simp)).num (num_le2 (hS.ow (yA1,yN1,yC1,q) (by simp)).num (show q < 18446744073709551616 by omega))).mono ?_
 rintro en w2 ⟨rfl,hb9⟩
 have hz2:=hb9.size
 replace hS:=hS.kept hb9
 clear hb9
 simp only [World.size_alloc] at hz2
 obtain ⟨⟨k0_0,k0_1,k0_2,-⟩,-⟩:=hS.cz ⟨w.heap.size,#[.bool s,.slice a n cap,.int .i64 z],61⟩ (by simp)
 simp only [] at k0_0 k0_1 k0_2
 go_wp2_with fail
 clear k0_0 k0_1 k0_2
 replace hS:=hS.sub (bs':=[⟨w.heap.size,#[.bool s,.slice a n cap,.int .i64 z],61⟩]) (ms':=[(a,n,m)]) (os':=[]) (by intro x hx; rcases List.mem_cons.1 hx with rfl|hx; (simp); exact absurd hx List.not_mem_nil) (by intro x hx; rcases List.mem_cons.1 hx with rfl|hx; (simp); exact absurd hx List.not_mem_nil) (by intro x hx; exact absurd hx List.not_mem_nil)
 refine wp_region_any (by kernel_rfl) ?_
 change wpAny _ _ _ _ _ _ _ (World.drew _)
 have hS9:=hS.drew
 have hsW9:(World.drew w2).heap.size = w2.heap.size:=by first|rfl|simp
 generalize World.drew w2 = Wd at hS9 hsW9 ⊢
 obtain ⟨S9,hS9z⟩:∃ x,x = Wd.heap.size:=⟨_,rfl⟩
 have hC9:=Rc.start (bs:=[⟨w.heap.size,#[.bool s,.slice a n cap,.int .i64 z],61⟩]) hS9 (by simp)
 rw [← hS9z] at hC9
 refine wpAny_inv (fun l act w'=>∃ σ,Cut3I w s a n cap m z dr q mode o hf yA1 yN1 yC1 w1 S9 l act w' σ) ?_ ?_ _ _ _ _ ?_ ?_
 ·intro l act w' i9 hI9 hi9 hl9
  have hin9:i9 < 12:=by
   by_cases h:i9 < 12
   ·exact h
   ·obtain ⟨⟨⟩,rfl,_⟩:=hI9
    rw [Array.getElem?_eq_none (by simp; omega)] at hl9; cases hl9
  have hcase:i9 = 0∨i9 = 1∨i9 = 2∨i9 = 3∨i9 = 4∨i9 = 5∨i9 = 6∨i9 = 7∨i9 = 8∨i9 = 9∨i9 = 10∨i9 = 11:=by omega
  clear hin9
  obtain ⟨⟨b0,b1,b2,b3,b4,b5,b6,b7,b8,b9,b10,b11,v0,v1,v2,v3,v4,v5,v6,v7,v8,v9,v10,bs9,os9⟩,rfl,rfl,hR⟩:=hI9
  rcases hcase with rfl|rfl|rfl|rfl|rfl|rfl|rfl|rfl|rfl|rfl|rfl|rfl
  ·obtain rfl:b0 = false:=by simpa using hl9
   have hc:=hR.hc
   refine wpOp_step rfl fun K hK=>?_
   go_simp
   exact hK _ _ ⟨⟨_,_,_,_,_,_,_,_,_,_,_,_,_,_,_,_,_,_,_,_,_,_,_,_,_⟩,rfl,rfl,{ hR with hc:=hc,f0:=(fun _=>rfl) }⟩
  ·obtain rfl:b1 = false:=by simpa using hl9
   obtain ⟨o9,ho9,hd9⟩:=(mem_ready.1 hi9).2
   cases ho9
   have e0:b0 = true:=hd9 ⟨0,.data⟩ (by simp) rfl
   subst e0
   have h9:=hR.f0 rfl
   subst h9
   have hc:=hR.hc
   have c9_0:=hc.st.cellAt (hc.old ⟨w.heap.size,#[.bool s,.slice a n cap,.int .i64 z],61⟩ (by simp)).1 0 (.bool s) rfl
   simp only [] at c9_0
   refine wpOp_step rfl fun K hK=>?_
   go_simp
   exact hK _ _ ⟨⟨_,_,_,_,_,_,_,_,_,_,_,_,_,_,_,_,_,_,_,_,_,_,_,_,_⟩,rfl,rfl,{ hR with hc:=hc,f1:=(fun _=>rfl) }⟩
  ·obtain rfl:b2 = false:=by simpa using hl9
   have hc:=hR.hc
   refine wpOp_step rfl fun K hK=>?_
   go_simp
   exact hK _ _ ⟨⟨_,_,_,_,_,_,_,_,_,_,_,_,_,_,_,_,_,_,_,_,_,_,_,_,_⟩,rfl,rfl,{ hR with hc:=hc,f2:=(fun _=>rfl) }⟩
  ·obtain rfl:b3 = false:=by simpa using hl9
   obtain ⟨o9,ho9,hd9⟩:=(mem_ready.1 hi9).2
   cases ho9
   have e2:b2 = true:=hd9 ⟨2,.data⟩ (by simp) rfl
   subst e2
   have h9:=hR.f2 rfl
   subst h9
   have hc:=hR.hc
   refine wpOp_step rfl fun K hK=>?_
   go_simp
   exact hK _ _ ⟨⟨_,_,_,_,_,_,_,_,_,_,_,_,_,_,_,_,_,_,_,_,_,_,_,_,_⟩,rfl,rfl,{ hR with hc:=hc,f3:=(fun _=>by first|rfl|exact congrArg (Value.int .u64) hand) }⟩
  ·obtain rfl:b4 = false:=by simpa using hl9
   obtain ⟨o9,ho9,hd9⟩:=(mem_ready.1 hi9).2
   cases ho9
   have e3:b3 = true:=hd9 ⟨3,.data⟩ (by simp) rfl
   subst e3
   have h9:=hR.f3 rfl
   subst h9
   have hc:=hR.hc
   refine wpOp_step rfl fun K hK=>?_
   go_simp
   exact hK _ _ ⟨⟨_,_,_,_,_,_,_,_,_,_,_,_,_,_,_,_,_,_,_,_,_,_,_,_,_⟩,rfl,rfl,{ hR with hc:=hc,f4:=(fun _=>by first|rfl|exact congrArg Value.bool ho) }⟩
  ·obtain rfl:b5 = false:=by simpa using hl9
   have hc:=hR.hc
   refine wpOp_step rfl fun K hK=>?_
   go_simp
   exact hK _ _ ⟨⟨_,_,_,_,_,_,_,_,_,_,_,_,_,_,_,_,_,_,_,_,_,_,_,_,_⟩,rfl,rfl,{ hR with hc:=hc,f5:=(fun _=>rfl) }⟩
  ·obtain rfl:b6 = false:=by simpa using hl9
   obtain ⟨o9,ho9,hd9⟩:=(mem_ready.1 hi9).2
   cases ho9
   have e5:b5 = true:=hd9 ⟨5,.data⟩ (by simp) rfl
   subst e5
   have h9:=hR.f5 rfl
   subst h9
   have hc:=hR.hc
   have c9_0:=hc.st.cellAt (hc.old ⟨w.heap.size,#[.bool s,.slice a n cap,.int .i64 z],61⟩ (by simp)).1 1 (.slice a n cap) rfl
   simp only [] at c9_0
   refine wpOp_step rfl fun K hK=>?_
   go_simp
   exact hK _ _ ⟨⟨_,_,_,_,_,_,_,_,_,_,_,_,_,_,_,_,_,_,_,_,_,_,_,_,_⟩,rfl,rfl,{ hR with hc:=hc,f6:=(fun _=>rfl) }⟩
  ·obtain rfl:b7 = false:=by simpa using hl9
   have hc:=hR.hc
   refine wpOp_step rfl fun K hK=>?_
   go_simp
   exact hK _ _ ⟨⟨_,_,_,_,_,_,_,_,_,_,_,_,_,_,_,_,_,_,_,_,_,_,_,_,_⟩,rfl,rfl,{ hR with hc:=hc,f7:=(fun _=>rfl) }⟩
  ·obtain rfl:b8 = false:=by simpa using hl9
   obtain ⟨o9,ho9,hd9⟩:=(mem_ready.1 hi9).2
   cases ho9
   have e6:b6 = true:=hd9 ⟨6,.data⟩ (by simp) rfl
   have e7:b7 = true:=hd9 ⟨7,.data⟩ (by simp) rfl
   subst e6 e7
   have h9:=hR.f6 rfl
   subst h9
   have h9:=hR.f7 rfl
   subst h9
   have hc:=hR.hc
   have HR:=hide hR
   clear hR
   refine wpOp_step rfl fun K hK=>?_
   go_simp
   go_wp2_with fail
   refine (unhide HH _ _ _ _ (hc.st.nm (a,n,m) (by simp))).mono ?_
   rintro en w9 ⟨rfl,hb9⟩
   have hR:=unhide HR
   exact hK _ _ ⟨⟨_,_,_,_,_,_,_,_,_,_,_,_,_,_,_,_,_,_,_,_,_,_,_,_,_⟩,rfl,rfl,{ hR with hc:=(hc.call (hc.st.kept hb9) hb9.size (fun y hy=>hy)),f8:=(fun _=>rfl) }⟩
  ·obtain rfl:b9 = false:=by simpa using hl9
   obtain ⟨o9,ho9,hd9⟩:=(mem_ready.1 hi9).2
   cases ho9
   have e1:b1 = true:=hd9 ⟨1,.data⟩ (by simp) rfl
   have e4:b4 = true:=hd9 ⟨4,.data⟩ (by simp) rfl
   have e8:b8 = true:=hd9 ⟨8,.data⟩ (by simp) rfl
   subst e1 e4 e8
   have h9:=hR.f1 rfl
   subst h9
   have h9:=hR.f4 rfl
   subst h9
   have h9:=hR.f8 rfl
   subst h9
   have hc:=hR.hc
   refine wpOp_step rfl fun K hK=>?_
   go_simp
   exact hK _ _ ⟨⟨_,_,_,_,_,_,_,_,_,_,_,_,_,_,_,_,_,_,_,_,_,_,_,_,_⟩,rfl,rfl,{ hR with hc:=hc,f9:=(fun _=>by first|rfl|simp),f11:=(fun h=>Bool.noConfusion (hR.g11_9 h)),g11_9:=(fun _=>rfl) }⟩
  ·obtain rfl:b10 = false:=by simpa using hl9
   have hc:=hR.hc
   refine wpOp_step rfl fun K hK=>?_
   go_simp
   exact hK _ _ ⟨⟨_,_,_,_,_,_,_,_,_,_,_,_,_,_,_,_,_,_,_,_,_,_,_,_,_⟩,rfl,rfl,{ hR with hc:=(hc.alloc #[.bool false,.bool false,.int .i64 0] 87),f10:=(fun _=>AlN.self rfl hc.sz rfl),f11:=(fun h=>Bool.noConfusion (hR.g11_10 h)),g11_10:=(fun _=>rfl) }⟩
  ·obtain rfl:b11 = false:=by simpa using hl9
   obtain ⟨o9,ho9,hd9⟩:=(mem_ready.1 hi9).2
   cases ho9
   have e9:b9 = true:=hd9 ⟨9,.data⟩ (by simp) rfl
   have e10:b10 = true:=hd9 ⟨10,.data⟩ (by simp) rfl
   subst e9 e10
   have h9:=hR.f9 rfl
   subst h9
   have hc:=hR.hc
   obtain ⟨g9,cs9,h9,hg9,hz9,hm9⟩:=hR.f10 rfl
   subst h9
   obtain ⟨y9_0,y9_1,y9_2,rfl⟩:∃ y9_0 y9_1 y9_2,cs9 = #[y9_0,y9_1,y9_2]:=by
    match cs9,hz9 with
    | ⟨[y9_0,y9_1,y9_2]⟩,_=>exact ⟨y9_0,y9_1,y9_2,rfl⟩
   clear hz9
   have fz9_0:=hc.st.frozen hm9 0
   have cz9_0:=hc.st.cellAt hm9 0 y9_0 rfl
   simp only [] at fz9_0 cz9_0
   have fz9_1:=hc.st.frozen hm9 1
   have cz9_1:=hc.st.cellAt hm9 1 y9_1 rfl
   simp only [] at fz9_1 cz9_1
   have fz9_2:=hc.st.frozen hm9 2
   have cz9_2:=hc.st.cellAt hm9 2 y9_2 rfl
   simp only [] at fz9_2 cz9_2
   have hn9:∀ x,x∈([⟨w.heap.size,#[.bool s,.slice a n cap,.int .i64 z],61⟩]:List En)→x.b≠g9:=fun x hx=>by have:=(hc.old x hx).2; omega
   refine wpOp_step rfl fun K hK=>?_
   go_simp
   exact hK _ _ ⟨⟨_,_,_,_,_,_,_,_,_,_,_,_,_,_,_,_,_,_,_,_,_,_,_,_,_⟩,rfl,rfl,{ hR with hc:=(((hc.store hm9 (by have:=hc.w0s; omega) hn9 0 (.bool s) (by simp)).store (List.mem_cons_self ..) (by have:=hc.w0s; omega) hn9 1 (.bool o) (by simp)).store (List.mem_cons_self ..) (by have:=hc.w0s; omega) hn9 2 (.int .i64 hf) (by simp)),f10:=(fun _=>⟨g9,_,rfl,hg9,by simp,List.mem_cons_self ..⟩),f11:=(fun _=>⟨g9,rfl,hg9,List.mem_cons_self ..⟩),g11_10:=(fun _=>rfl),g11_9:=(fun _=>rfl) }⟩
 ·rintro l act Wq3 ⟨⟨b0,b1,b2,b3,b4,b5,b6,b7,b8,b9,b10,b11,v0,v1,v2,v3,v4,v5,v6,v7,v8,v9,v10,bs9,os9⟩,rfl,rfl,hR⟩ hr9
  obtain ⟨hc,f0,f1,f2,f3,f4,f5,f6,f7,f8,f9,f10,f11,g11_10,g11_9⟩:=hR
  have eall:=all_done hr9 (by kernel_rfl) rfl
  obtain rfl:b0 = true:=eall 0 (by decide)
  obtain rfl:b1 = true:=eall 1 (by decide)
  obtain rfl:b2 = true:=eall 2 (by decide)
  obtain rfl:b3 = true:=eall 3 (by decide)
  obtain rfl:b4 = true:=eall 4 (by decide)
  obtain rfl:b5 = true:=eall 5 (by decide)
  obtain rfl:b6 = true:=eall 6 (by decide)
  obtain rfl:b7 = true:=eall 7 (by decide)
  obtain rfl:b8 = true:=eall 8 (by decide)
  obtain rfl:b9 = true:=eall 9 (by decide)
  obtain rfl:b10 = true:=eall 10 (by decide)
  obtain rfl:b11 = true:=eall 11 (by decide)
  clear hr9 eall
  have h9:=f0 rfl
  subst h9
  have h9:=f1 rfl
  subst h9
  have h9:=f2 rfl
  subst h9
  have h9:=f3 rfl
  subst h9
  have h9:=f4 rfl
  subst h9
  have h9:=f5 rfl
  subst h9
  have h9:=f6 rfl
  subst h9
  have h9:=f7 rfl
  subst h9
  have h9:=f8 rfl
  subst h9
  have h9:=f9 rfl
  subst h9
  obtain ⟨x3_g10,h9,hg10,hm10⟩:=f11 rfl
  subst h9
  have hbs9:∀ x,x∈([⟨x3_g10,#[.bool s,.bool o,.int .i64 hf],87⟩,⟨w.heap.size,#[.bool s,.slice a n cap,.int .i64 z],61⟩]:List En)→x∈bs9:=by
   intro x hx
   rcases List.mem_cons.1 hx with rfl|hx
   ·exact hm10
   rcases List.mem_cons.1 hx with rfl|hx
   ·exact (hc.old _ (by simp)).1
   exact absurd hx List.not_mem_nil
  have hos9:∀ x,x∈([]:Os)→x∈os9:=by
   intro x hx
   exact absurd hx List.not_mem_nil
  have hS:=hc.st.sub hbs9 (fun x hx=>hx) hos9
  have hsz9:=hc.sz
  rw [hS9z,hsW9] at hsz9
  have hlx3_g10:=hg10
  rw [hS9z,hsW9] at hlx3_g10
  have hux3_g10:=block_lt (hc.st.bx _ hm10).1
  simp only [] at hux3_g10
  clear hbs9 hos9 hc f0 f1 f2 f3 f4 f5 f6 f7 f8 f9 f10 f11 g11_10 g11_9
  clear hm10 hg10
  have hz3:=hsz9
  clear hsz9 hS9z hS9 hC9 hsW9
  obtain ⟨⟨k0_0,k0_1,k0_2,-⟩,-⟩:=hS.cz ⟨x3_g10,#[.bool s,.bool o,.int .i64 hf],87⟩ (by simp)
  simp only [] at k0_0 k0_1 k0_2
  go_wp2_with fail
  clear k0_0 k0_1 k0_2
  refine (unhide HF _).mono ?_
  rintro en w3 ⟨rfl,hb9⟩
  replace hS:=hS.kept hb9
  clear hb9
  cases up
  ·go_wp2
   exact bodyPost_ret (v:=.tuple #[.int .u64 ((q+0:Nat):Int),.bool false]) (by simp [results,Tryz.results87,go_sem]) rfl ⟨rfl,hS.fr⟩
  ·go_wp2
   exact bodyPost_ret (v:=.tuple #[.int .u64 ((q+1:Nat):Int),.bool false]) (by simp [results,Tryz.results87,go_sem]) rfl ⟨rfl,hS.fr⟩
 ·simp
 ·exact ⟨⟨false,false,false,false,false,false,false,false,false,false,false,false,undef,undef,undef,undef,undef,undef,undef,undef,undef,undef,undef,_,_⟩,rfl,rfl,⟨hC9,nb,nb,nb,nb,nb,nb,nb,nb,nb,nb,nb,nb,nb,nb⟩⟩
theorem cut_up (w:World) (s:Bool) (a:Option Addr) (n cap m:Nat) (z:Int) (dr q mode:Nat) (o:Bool) (hf:Int) (h:Num w a n m) (hdr:0 < dr) (hdr2:dr < 4611686018427387904) (hq:q < 9223372036854775808) (hand:bits BinOp.and .u64 (q:Int) 1 = ((q % 2:Nat):Int)) (ho:(((q % 2:Nat):Int) == 1) = o) (HD:Hid (∀ W:World,Num W a n m→Calls Tryz.prog 119 #[.agg #[.slice a n cap],.int .i64 (dr:Int)] W fun en W'=>(∃ a n c,en = .returned (.tuple #[.agg #[.slice a n c],.int .i64 0])∧Mine W' W.heap.size a n c q)∧Below W.heap.size W W')) (HH:Hid (∀ (W:World) (A:Option Addr) (N C:Nat),Num W A N m→Calls Tryz.prog 124 #[.agg #[.slice A N C],.int .i64 (dr:Int)] W fun en W'=>en = .returned (.int .i64 hf)∧Below W.heap.size W W')) (HF:Hid (∀ W:World,Calls Tryz.prog 39 #[.agg #[.bool s,.bool o,.int .i64 hf],.int .u8 (mode:Int)] W fun en W'=>en = .returned (.bool true)∧Below W.heap.size W W')) :
  Calls Tryz.prog 87 #[.agg #[.bool s,.slice a n cap,.int .i64 z],.int .i64 (z+(dr:Int)),.int .u8 (mode:Int)] w fun en w'=>en = .returned (.tuple #[.int .u64 ((q+1:Nat):Int),.bool false])∧Below w.heap.size w w':=
 cut_to true w s a n cap m z dr q mode o hf h hdr hdr2 hq hand ho HD HH HF
theorem cut_down (w:World) (s:Bool) (a:Option Addr) (n cap m:Nat) (z:Int) (dr q mode:Nat) (o:Bool) (hf:Int) (h:Num w a n m) (hdr:0 < dr) (hdr2:dr < 4611686018427387904) (hq:q < 9223372036854775808) (hand:bits BinOp.and .u64 (q:Int) 1 = ((q % 2:Nat):Int)) (ho:(((q % 2:Nat):Int) == 1) = o) (HD:Hid (∀ W:World,Num W a n m→Calls Tryz.prog 119 #[.agg #[.slice a n cap],.int .i64 (dr:Int)] W fun en W'=>(∃ a n c,en = .returned (.tuple #[.agg #[.slice a n c],.int .i64 0])∧Mine W' W.heap.size a n c q)∧Below W.heap.size W W')) (HH:Hid (∀ (W:World) (A:Option Addr) (N C:Nat),Num W A N m→Calls Tryz.prog 124 #[.agg #[.slice A N C],.int .i64 (dr:Int)] W fun en W'=>en = .returned (.int .i64 hf)∧Below W.heap.size W W')) (HF:Hid (∀ W:World,Calls Tryz.prog 39 #[.agg #[.bool s,.bool o,.int .i64 hf],.int .u8 (mode:Int)] W fun en W'=>en = .returned (.bool false)∧Below W.heap.size W W')) :
  Calls Tryz.prog 87 #[.agg #[.bool s,.slice a n cap,.int .i64 z],.int .i64 (z+(dr:Int)),.int .u8 (mode:Int)] w fun en w'=>en = .returned (.tuple #[.int .u64 ((q+0:Nat):Int),.bool false])∧Below w.heap.size w w':=
 cut_to false w s a n cap m z dr q mode o hf h hdr hdr2 hq hand ho HD HH HF
end Go.Proofs.YtfjegmlpkiaifaaGreatDoor
