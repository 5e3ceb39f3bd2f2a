/- Of what NearRoundsRow stands on: RdCut2 ExBits RdLeaf RdRound. -/
import Derived.Test.YtaidedkpfnidpaaGreatDoorPaq
namespace Go.Proofs.YtaidedkpfnidpaaGreatDoor
open Go.RowKit
set_option maxHeartbeats 4000000
set_option maxRecDepth 20000
structure IL where
 (b0 b1 b2 b3 b4 b5 b6 b7 b8 b9 b10 b11:Bool)
 (v0 v1 v2 v3 v4 v5 v6 v7 v8 v9 v10:Value)
 bs9:List En
 os9:Os
structure I9(w:World)(s:Bool)(a:Option Addr)(n cap m:Nat)(z:Int)(dr q mode:Nat)(o:Bool)(hf:Int)(yA1:Option Addr)(yN1 yC1:Nat)(w1:World)(S9:Nat)(b0 b1 b2 b3 b4 b5 b6 b7 b8 b9 b10 b11:Bool)(v0 v1 v2 v3 v4 v5 v6 v7 v8 v9 v10:Value)(bs9:List En)(os9:Os)(w':World):Prop where
 hc:Rc w S9 [⟨w.heap.size,#[.bool s,.slice a n cap,.int .i64 z],58⟩] [(a,n,m)] [] none bs9 os9 w'
 f0:b0=true→v0 = .pointer (some ⟨w.heap.size,0,none⟩)
 f1:b1=true→v1 = .bool s
 f2:b2=true→v2 = .int .u64 (q:Int)
 f3:b3=true→v3 = .int .u64 ((q%2:Nat):Int)
 f4:b4=true→v4 = .bool o
 f5:b5=true→v5 = .pointer (some ⟨w.heap.size,1,none⟩)
 f6:b6=true→v6 = .agg #[.slice a n cap]
 f7:b7=true→v7 = .int .i64 (dr:Int)
 f8:b8=true→v8 = .int .i64 hf
 f9:b9=true→v9 = .agg #[.bool s,.bool o,.int .i64 hf]
 f10:b10=true→lu bs9 S9 v10 216 3
 f11:b11=true→rR bs9 S9 v10 #[.bool s,.bool o,.int .i64 hf] 216
 g11_10:b11=true→b10=true
 g11_9:b11=true→b9=true
def Ji(w:World)(s:Bool)(a:Option Addr)(n cap m:Nat)(z:Int)(dr q mode:Nat)(o:Bool)(hf:Int)(yA1:Option Addr)(yN1 yC1:Nat)(w1:World)(S9:Nat)(l:Array Bool)(act:Act)(w':World):IL→Prop
 | ⟨b0,b1,b2,b3,b4,b5,b6,b7,b8,b9,b10,b11,v0,v1,v2,v3,v4,v5,v6,v7,v8,v9,v10,bs9,os9⟩=>l = #[b0,b1,b2,b3,b4,b5,b6,b7,b8,b9,b10,b11]∧act = { tmps:=#[.agg #[.bool s,.slice a n cap,.int .i64 z],.int .i64 (z+(dr:Int)),.int .u8 (mode:Int),.pointer (some ⟨w.heap.size,0,none⟩),undef,undef,.int .u64 (q:Int),.bool false,.int .i64 (dr:Int),.pointer (some ⟨w1.heap.size,0,none⟩),.int .i64 0,v10,.int .i64 (z+(dr:Int)),.pointer (some ⟨w.heap.size,2,none⟩),.int .i64 z,.int .i64 (dr:Int),.int .i64 (dr:Int),.bool false,undef,undef,undef,undef,undef,undef,undef,undef,undef,undef,.tuple #[.agg #[.slice yA1 yN1 yC1],.int .i64 0],.pointer (some ⟨w.heap.size,1,none⟩),.agg #[.slice a n cap],.int .i64 (dr:Int),.tuple #[.agg #[.slice yA1 yN1 yC1],.int .i64 0],.agg #[.slice yA1 yN1 yC1],.int .i64 0,.tuple #[.int .u64 (q:Int),.bool true],.agg #[.slice yA1 yN1 yC1],.tuple #[.int .u64 (q:Int),.bool true],.int .u64 (q:Int),.bool true,v0,v1,v2,v3,v4,v5,v6,v7,v8,v9,undef,undef,undef,undef,undef,undef],defers:=[] }∧I9 w s a n cap m z dr q mode o hf yA1 yN1 yC1 w1 S9 b0 b1 b2 b3 b4 b5 b6 b7 b8 b9 b10 b11 v0 v1 v2 v3 v4 v5 v6 v7 v8 v9 v10 bs9 os9 w'
theorem zB(up:Bool)(w:World)(s:Bool)(a:Option Addr)(n cap m:Nat)(z:Int)(dr q mode:Nat)(o:Bool)(hf:Int)(h:Num w a n m)(hdr:0<dr)(hdr2:dr<4611686018427387904)(hq:q<9223372036854775808)(hand:bits BinOp.and .u64 (q:Int) 1=((q%2:Nat):Int))(ho:(((q%2:Nat):Int)==1)=o)(HD:Hid (∀W:World,Num W a n m→Calls Tryz.prog 101 #[.agg #[.slice a n cap],.int .i64 (dr:Int)] W fun en W'=>(∃a n c,en = .returned (.tuple #[.agg #[.slice a n c],.int .i64 0])∧Mine W' W.heap.size a n c q)∧Below W.heap.size W W'))(HH:Hid (∀(W:World) (A:Option Addr) (N C:Nat),Num W A N m→Calls Tryz.prog 163 #[.agg #[.slice A N C],.int .i64 (dr:Int)] W fun en W'=>en = .returned (.int .i64 hf)∧Below W.heap.size W W'))(HF:Hid (∀W:World,Calls Tryz.prog 164 #[.agg #[.bool s,.bool o,.int .i64 hf],.int .u8 (mode:Int)] W fun en W'=>en = .returned (.bool up)∧Below W.heap.size W W')) :
  Calls Tryz.prog 137 #[.agg #[.bool s,.slice a n cap,.int .i64 z],.int .i64 (z+(dr:Int)),.int .u8 (mode:Int)] w fun en w'=>en = .returned (.tuple #[.int .u64 ((q+cond up 1 0:Nat):Int),.bool false])∧Below w.heap.size w w':=by
 have e1:z+(dr:Int)-z=(dr:Int):=by omega
 have e2:¬((dr:Int)≤0):=by omega
 have e3:IntKind.u64.wrap ((q:Int)+1)=((q+1:Nat):Int):=by rw [show ((q:Int)+1)=((q+1:Nat):Int) from by omega,IntKind.wrap_u64];omega
 have hS:=Rs.begin w;replace hS:=hS.num h;replace hS:=hS.alloc #[.bool s,.slice a n cap,.int .i64 z] 58
 try simp only [World.size_alloc] at hS
 go_enter Tryz.func137,Tryz.ntmps137
 go_wp2_with fail
 refine (II hS (aa HD _ (hS.nm (a,n,m) (by simp)))).mono ?_;clear hS;rintro en w1 ⟨yA1,yN1,yC1,rfl,hS,hz1⟩;simp only [World.size_alloc] at hz1;replace hS:=hS.alloc #[.slice yA1 yN1 yC1] 27
 try simp only [World.size_alloc] at hS
 go_wp2_with fail
 refine (lw yA1 yN1 yC1 q _ (hS.ow (yA1,yN1,yC1,q) (by simp)).num (vE (hS.ow (yA1,yN1,yC1,q) (by simp)).num (show q<18446744073709551616 by omega))).mono ?_;rintro en w2 ⟨rfl,hb9⟩;have hz2:=hb9.size;replace hS:=hS.kept hb9;clear hb9;simp only [World.size_alloc] at hz2;obtain ⟨⟨k0_0,k0_1,k0_2,-⟩,-⟩:=hS.cz ⟨w.heap.size,#[.bool s,.slice a n cap,.int .i64 z],58⟩ (by simp);simp only [] at k0_0 k0_1 k0_2;go_wp2_with fail
 clear k0_0 k0_1 k0_2;replace hS:=hS.sub (bs':=[⟨w.heap.size,#[.bool s,.slice a n cap,.int .i64 z],58⟩]) (ms':=[(a,n,m)]) (os':=[]) (by intro x hx;rcases List.mem_cons.1 hx with rfl|hx;(simp);exact absurd hx List.not_mem_nil) (by intro x hx;rcases List.mem_cons.1 hx with rfl|hx;(simp);exact absurd hx List.not_mem_nil) (by intro x hx;exact absurd hx List.not_mem_nil);refine wp_region_any (by kernel_rfl) ?_;change wpAny _ _ _ _ _ _ _ (World.drew _);have hS9:=hS.drew;have hsW9:(World.drew w2).heap.size=w2.heap.size:=by first|rfl|simp
 generalize World.drew w2=Wd at hS9 hsW9 ⊢;obtain ⟨S9,hS9z⟩:∃x,x=Wd.heap.size:=⟨_,rfl⟩;have hC9:=Rc.start (bs:=[⟨w.heap.size,#[.bool s,.slice a n cap,.int .i64 z],58⟩]) hS9 (by simp);rw [←hS9z] at hC9;refine iG (fun l act w'=>∃σ,Ji w s a n cap m z dr q mode o hf yA1 yN1 yC1 w1 S9 l act w' σ) ?_ ?_ _ _ _ _ ?_ ?_
 ·intro l act w' i9 hI9 hi9 hl9;have hin9:i9<12:=by
   by_cases h:i9<12
   ·exact h
   ·obtain ⟨⟨⟩,rfl,_⟩:=hI9;rw [Array.getElem?_eq_none (by simp;omega)] at hl9;cases hl9
  have hcase:i9=0∨i9=1∨i9=2∨i9=3∨i9=4∨i9=5∨i9=6∨i9=7∨i9=8∨i9=9∨i9=10∨i9=11:=by omega
  clear hin9;obtain ⟨⟨b0,b1,b2,b3,b4,b5,b6,b7,b8,b9,b10,b11,v0,v1,v2,v3,v4,v5,v6,v7,v8,v9,v10,bs9,os9⟩,rfl,rfl,hR⟩:=hI9;rcases hcase with rfl|rfl|rfl|rfl|rfl|rfl|rfl|rfl|rfl|rfl|rfl|rfl
  ·obtain rfl:b0=false:=by simpa using hl9
   have hc:=hR.hc;refine wpOp_step rfl fun K hK=>?_;go_simp
   exact hK _ _ ⟨⟨_,_,_,_,_,_,_,_,_,_,_,_,_,_,_,_,_,_,_,_,_,_,_,_,_⟩,rfl,rfl,{ hR with hc:=hc,f0:=(fun _=>rfl) }⟩
  ·obtain rfl:b1=false:=by simpa using hl9
   obtain ⟨o9,ho9,hd9⟩:=(mem_ready.1 hi9).2;cases ho9;have e0:b0=true:=hd9 ⟨0,.data⟩ (by simp) rfl;subst e0;have h9:=hR.f0 rfl;subst h9;have hc:=hR.hc;have c9_0:=hc.st.cellAt (hc.old ⟨w.heap.size,#[.bool s,.slice a n cap,.int .i64 z],58⟩ (by simp)).1 0 (.bool s) rfl;simp only [] at c9_0;refine wpOp_step rfl fun K hK=>?_;go_simp
   exact hK _ _ ⟨⟨_,_,_,_,_,_,_,_,_,_,_,_,_,_,_,_,_,_,_,_,_,_,_,_,_⟩,rfl,rfl,{ hR with hc:=hc,f1:=(fun _=>rfl) }⟩
  ·obtain rfl:b2=false:=by simpa using hl9
   have hc:=hR.hc;refine wpOp_step rfl fun K hK=>?_;go_simp
   exact hK _ _ ⟨⟨_,_,_,_,_,_,_,_,_,_,_,_,_,_,_,_,_,_,_,_,_,_,_,_,_⟩,rfl,rfl,{ hR with hc:=hc,f2:=(fun _=>rfl) }⟩
  ·obtain rfl:b3=false:=by simpa using hl9
   obtain ⟨o9,ho9,hd9⟩:=(mem_ready.1 hi9).2;cases ho9;have e2:b2=true:=hd9 ⟨2,.data⟩ (by simp) rfl;subst e2;have h9:=hR.f2 rfl;subst h9;have hc:=hR.hc;refine wpOp_step rfl fun K hK=>?_;go_simp
   exact hK _ _ ⟨⟨_,_,_,_,_,_,_,_,_,_,_,_,_,_,_,_,_,_,_,_,_,_,_,_,_⟩,rfl,rfl,{ hR with hc:=hc,f3:=(fun _=>by first|rfl|exact congrArg (Value.int .u64) hand) }⟩
  ·obtain rfl:b4=false:=by simpa using hl9
   obtain ⟨o9,ho9,hd9⟩:=(mem_ready.1 hi9).2;cases ho9;have e3:b3=true:=hd9 ⟨3,.data⟩ (by simp) rfl;subst e3;have h9:=hR.f3 rfl;subst h9;have hc:=hR.hc;refine wpOp_step rfl fun K hK=>?_;go_simp
   exact hK _ _ ⟨⟨_,_,_,_,_,_,_,_,_,_,_,_,_,_,_,_,_,_,_,_,_,_,_,_,_⟩,rfl,rfl,{ hR with hc:=hc,f4:=(fun _=>by first|rfl|exact congrArg Value.bool ho) }⟩
  ·obtain rfl:b5=false:=by simpa using hl9
   have hc:=hR.hc;refine wpOp_step rfl fun K hK=>?_;go_simp
   exact hK _ _ ⟨⟨_,_,_,_,_,_,_,_,_,_,_,_,_,_,_,_,_,_,_,_,_,_,_,_,_⟩,rfl,rfl,{ hR with hc:=hc,f5:=(fun _=>rfl) }⟩
  ·obtain rfl:b6=false:=by simpa using hl9
   obtain ⟨o9,ho9,hd9⟩:=(mem_ready.1 hi9).2;cases ho9;have e5:b5=true:=hd9 ⟨5,.data⟩ (by simp) rfl;subst e5;have h9:=hR.f5 rfl;subst h9;have hc:=hR.hc;have c9_0:=hc.st.cellAt (hc.old ⟨w.heap.size,#[.bool s,.slice a n cap,.int .i64 z],58⟩ (by simp)).1 1 (.slice a n cap) rfl;simp only [] at c9_0;refine wpOp_step rfl fun K hK=>?_;go_simp
   exact hK _ _ ⟨⟨_,_,_,_,_,_,_,_,_,_,_,_,_,_,_,_,_,_,_,_,_,_,_,_,_⟩,rfl,rfl,{ hR with hc:=hc,f6:=(fun _=>rfl) }⟩
  ·obtain rfl:b7=false:=by simpa using hl9
   have hc:=hR.hc;refine wpOp_step rfl fun K hK=>?_;go_simp
   exact hK _ _ ⟨⟨_,_,_,_,_,_,_,_,_,_,_,_,_,_,_,_,_,_,_,_,_,_,_,_,_⟩,rfl,rfl,{ hR with hc:=hc,f7:=(fun _=>rfl) }⟩
  ·obtain rfl:b8=false:=by simpa using hl9
   obtain ⟨o9,ho9,hd9⟩:=(mem_ready.1 hi9).2;cases ho9;have e6:b6=true:=hd9 ⟨6,.data⟩ (by simp) rfl;have e7:b7=true:=hd9 ⟨7,.data⟩ (by simp) rfl;subst e6 e7;have h9:=hR.f6 rfl;subst h9;have h9:=hR.f7 rfl;subst h9;have hc:=hR.hc;have HR:=hide hR;clear hR;refine wpOp_step rfl fun K hK=>?_;go_simp
   go_wp2_with fail
   refine (aa HH _ _ _ _ (hc.st.nm (a,n,m) (by simp))).mono ?_;rintro en w9 ⟨rfl,hb9⟩;have hR:=aa HR;exact hK _ _ ⟨⟨_,_,_,_,_,_,_,_,_,_,_,_,_,_,_,_,_,_,_,_,_,_,_,_,_⟩,rfl,rfl,{ hR with hc:=(hc.call (hc.st.kept hb9) hb9.size (fun y hy=>hy)),f8:=(fun _=>rfl) }⟩
  ·obtain rfl:b9=false:=by simpa using hl9
   obtain ⟨o9,ho9,hd9⟩:=(mem_ready.1 hi9).2;cases ho9;have e1:b1=true:=hd9 ⟨1,.data⟩ (by simp) rfl;have e4:b4=true:=hd9 ⟨4,.data⟩ (by simp) rfl;have e8:b8=true:=hd9 ⟨8,.data⟩ (by simp) rfl;subst e1 e4 e8;have h9:=hR.f1 rfl;subst h9;have h9:=hR.f4 rfl;subst h9;have h9:=hR.f8 rfl;subst h9;have hc:=hR.hc;refine wpOp_step rfl fun K hK=>?_;go_simp
   exact hK _ _ ⟨⟨_,_,_,_,_,_,_,_,_,_,_,_,_,_,_,_,_,_,_,_,_,_,_,_,_⟩,rfl,rfl,{ hR with hc:=hc,f9:=(fun _=>by first|rfl|simp),f11:=(fun h=>Bool.noConfusion (hR.g11_9 h)),g11_9:=(fun _=>rfl) }⟩
  ·obtain rfl:b10=false:=by simpa using hl9
   have hc:=hR.hc;refine wpOp_step rfl fun K hK=>?_;go_simp
   exact hK _ _ ⟨⟨_,_,_,_,_,_,_,_,_,_,_,_,_,_,_,_,_,_,_,_,_,_,_,_,_⟩,rfl,rfl,{ hR with hc:=(hc.alloc #[.bool false,.bool false,.int .i64 0] 216),f10:=(fun _=>lu.self rfl hc.sz rfl),f11:=(fun h=>Bool.noConfusion (hR.g11_10 h)),g11_10:=(fun _=>rfl) }⟩
  ·obtain rfl:b11=false:=by simpa using hl9
   obtain ⟨o9,ho9,hd9⟩:=(mem_ready.1 hi9).2;cases ho9;have e9:b9=true:=hd9 ⟨9,.data⟩ (by simp) rfl;have e10:b10=true:=hd9 ⟨10,.data⟩ (by simp) rfl;subst e9 e10;have h9:=hR.f9 rfl;subst h9;have hc:=hR.hc;obtain ⟨g9,cs9,h9,hg9,hz9,hm9⟩:=hR.f10 rfl;subst h9;obtain ⟨y9_0,y9_1,y9_2,rfl⟩:∃y9_0 y9_1 y9_2,cs9 = #[y9_0,y9_1,y9_2]:=by
    match cs9,hz9 with
    | ⟨[y9_0,y9_1,y9_2]⟩,_=>exact ⟨y9_0,y9_1,y9_2,rfl⟩
   clear hz9;have fz9_0:=hc.st.frozen hm9 0;have cz9_0:=hc.st.cellAt hm9 0 y9_0 rfl;simp only [] at fz9_0 cz9_0;have fz9_1:=hc.st.frozen hm9 1;have cz9_1:=hc.st.cellAt hm9 1 y9_1 rfl;simp only [] at fz9_1 cz9_1;have fz9_2:=hc.st.frozen hm9 2;have cz9_2:=hc.st.cellAt hm9 2 y9_2 rfl;simp only [] at fz9_2 cz9_2;have hn9:∀x,x∈([⟨w.heap.size,#[.bool s,.slice a n cap,.int .i64 z],58⟩]:List En)→x.b≠g9:=fun x hx=>by have:=(hc.old x hx).2;omega
   refine wpOp_step rfl fun K hK=>?_;go_simp
   exact hK _ _ ⟨⟨_,_,_,_,_,_,_,_,_,_,_,_,_,_,_,_,_,_,_,_,_,_,_,_,_⟩,rfl,rfl,{ hR with hc:=(((hc.store hm9 (by have:=hc.w0s;omega) hn9 0 (.bool s) (by simp)).store (List.mem_cons_self ..) (by have:=hc.w0s;omega) hn9 1 (.bool o) (by simp)).store (List.mem_cons_self ..) (by have:=hc.w0s;omega) hn9 2 (.int .i64 hf) (by simp)),f10:=(fun _=>⟨g9,_,rfl,hg9,by simp,List.mem_cons_self ..⟩),f11:=(fun _=>⟨g9,rfl,hg9,List.mem_cons_self ..⟩),g11_10:=(fun _=>rfl),g11_9:=(fun _=>rfl) }⟩
 ·rintro l act Wq3 ⟨⟨b0,b1,b2,b3,b4,b5,b6,b7,b8,b9,b10,b11,v0,v1,v2,v3,v4,v5,v6,v7,v8,v9,v10,bs9,os9⟩,rfl,rfl,hR⟩ hr9;obtain ⟨hc,f0,f1,f2,f3,f4,f5,f6,f7,f8,f9,f10,f11,g11_10,g11_9⟩:=hR;have eall:=BU hr9 (by kernel_rfl) rfl;obtain rfl:b0=true:=eall 0 (by decide);obtain rfl:b1=true:=eall 1 (by decide);obtain rfl:b2=true:=eall 2 (by decide);obtain rfl:b3=true:=eall 3 (by decide);obtain rfl:b4=true:=eall 4 (by decide);obtain rfl:b5=true:=eall 5 (by decide);obtain rfl:b6=true:=eall 6 (by decide);obtain rfl:b7=true:=eall 7 (by decide);obtain rfl:b8=true:=eall 8 (by decide);obtain rfl:b9=true:=eall 9 (by decide);obtain rfl:b10=true:=eall 10 (by decide);obtain rfl:b11=true:=eall 11 (by decide);clear hr9 eall;have h9:=f0 rfl;subst h9;have h9:=f1 rfl;subst h9;have h9:=f2 rfl;subst h9;have h9:=f3 rfl;subst h9;have h9:=f4 rfl;subst h9;have h9:=f5 rfl;subst h9;have h9:=f6 rfl;subst h9;have h9:=f7 rfl;subst h9;have h9:=f8 rfl;subst h9;have h9:=f9 rfl;subst h9;obtain ⟨x3_g10,h9,hg10,hm10⟩:=f11 rfl;subst h9;have hbs9:∀x,x∈([⟨x3_g10,#[.bool s,.bool o,.int .i64 hf],216⟩,⟨w.heap.size,#[.bool s,.slice a n cap,.int .i64 z],58⟩]:List En)→x∈bs9:=by
   intro x hx;rcases List.mem_cons.1 hx with rfl|hx
   ·exact hm10
   rcases List.mem_cons.1 hx with rfl|hx
   ·exact (hc.old _ (by simp)).1
   exact absurd hx List.not_mem_nil
  have hos9:∀x,x∈([]:Os)→x∈os9:=by
   intro x hx;exact absurd hx List.not_mem_nil
  have hS:=hc.st.sub hbs9 (fun x hx=>hx) hos9;have hsz9:=hc.sz;rw [hS9z,hsW9] at hsz9;have hlx3_g10:=hg10;rw [hS9z,hsW9] at hlx3_g10;have hux3_g10:=block_lt (hc.st.bx _ hm10).1;simp only [] at hux3_g10;clear hbs9 hos9 hc f0 f1 f2 f3 f4 f5 f6 f7 f8 f9 f10 f11 g11_10 g11_9;clear hm10 hg10;have hz3:=hsz9;clear hsz9 hS9z hS9 hC9 hsW9;obtain ⟨⟨k0_0,k0_1,k0_2,-⟩,-⟩:=hS.cz ⟨x3_g10,#[.bool s,.bool o,.int .i64 hf],216⟩ (by simp);simp only [] at k0_0 k0_1 k0_2;go_wp2_with fail
  clear k0_0 k0_1 k0_2;refine (aa HF _).mono ?_;rintro en w3 ⟨rfl,hb9⟩;replace hS:=hS.kept hb9;clear hb9;cases up
  ·go_wp2
   exact bodyPost_ret (v:=.tuple #[.int .u64 ((q+0:Nat):Int),.bool false]) (by simp [results,Tryz.results137,go_sem]) rfl ⟨rfl,hS.fr⟩
  ·go_wp2
   exact bodyPost_ret (v:=.tuple #[.int .u64 ((q+1:Nat):Int),.bool false]) (by simp [results,Tryz.results137,go_sem]) rfl ⟨rfl,hS.fr⟩
 ·simp
 ·exact ⟨⟨false,false,false,false,false,false,false,false,false,false,false,false,undef,undef,undef,undef,undef,undef,undef,undef,undef,undef,undef,_,_⟩,rfl,rfl,⟨hC9,nb,nb,nb,nb,nb,nb,nb,nb,nb,nb,nb,nb,nb,nb⟩⟩
theorem Ic(w:World)(s:Bool)(a:Option Addr)(n cap m:Nat)(z:Int)(dr q mode:Nat)(o:Bool)(hf:Int)(h:Num w a n m)(hdr:0<dr)(hdr2:dr<4611686018427387904)(hq:q<9223372036854775808)(hand:bits BinOp.and .u64 (q:Int) 1=((q%2:Nat):Int))(ho:(((q%2:Nat):Int)==1)=o)(HD:Hid (∀W:World,Num W a n m→Calls Tryz.prog 101 #[.agg #[.slice a n cap],.int .i64 (dr:Int)] W fun en W'=>(∃a n c,en = .returned (.tuple #[.agg #[.slice a n c],.int .i64 0])∧Mine W' W.heap.size a n c q)∧Below W.heap.size W W'))(HH:Hid (∀(W:World) (A:Option Addr) (N C:Nat),Num W A N m→Calls Tryz.prog 163 #[.agg #[.slice A N C],.int .i64 (dr:Int)] W fun en W'=>en = .returned (.int .i64 hf)∧Below W.heap.size W W'))(HF:Hid (∀W:World,Calls Tryz.prog 164 #[.agg #[.bool s,.bool o,.int .i64 hf],.int .u8 (mode:Int)] W fun en W'=>en = .returned (.bool true)∧Below W.heap.size W W')) :
  Calls Tryz.prog 137 #[.agg #[.bool s,.slice a n cap,.int .i64 z],.int .i64 (z+(dr:Int)),.int .u8 (mode:Int)] w fun en w'=>en = .returned (.tuple #[.int .u64 ((q+1:Nat):Int),.bool false])∧Below w.heap.size w w':=
 zB true w s a n cap m z dr q mode o hf h hdr hdr2 hq hand ho HD HH HF
theorem BN(w:World)(s:Bool)(a:Option Addr)(n cap m:Nat)(z:Int)(dr q mode:Nat)(o:Bool)(hf:Int)(h:Num w a n m)(hdr:0<dr)(hdr2:dr<4611686018427387904)(hq:q<9223372036854775808)(hand:bits BinOp.and .u64 (q:Int) 1=((q%2:Nat):Int))(ho:(((q%2:Nat):Int)==1)=o)(HD:Hid (∀W:World,Num W a n m→Calls Tryz.prog 101 #[.agg #[.slice a n cap],.int .i64 (dr:Int)] W fun en W'=>(∃a n c,en = .returned (.tuple #[.agg #[.slice a n c],.int .i64 0])∧Mine W' W.heap.size a n c q)∧Below W.heap.size W W'))(HH:Hid (∀(W:World) (A:Option Addr) (N C:Nat),Num W A N m→Calls Tryz.prog 163 #[.agg #[.slice A N C],.int .i64 (dr:Int)] W fun en W'=>en = .returned (.int .i64 hf)∧Below W.heap.size W W'))(HF:Hid (∀W:World,Calls Tryz.prog 164 #[.agg #[.bool s,.bool o,.int .i64 hf],.int .u8 (mode:Int)] W fun en W'=>en = .returned (.bool false)∧Below W.heap.size W W')) :
  Calls Tryz.prog 137 #[.agg #[.bool s,.slice a n cap,.int .i64 z],.int .i64 (z+(dr:Int)),.int .u8 (mode:Int)] w fun en w'=>en = .returned (.tuple #[.int .u64 ((q+0:Nat):Int),.bool false])∧Below w.heap.size w w':=
 zB false w s a n cap m z dr q mode o hf h hdr hdr2 hq hand ho HD HH HF
theorem oH(a:Option Addr)(n cap m k:Nat)(w:World)(h:Num w a n m)(hk:Bl m k) :
  Calls Tryz.prog 136 #[.agg #[.slice a n cap]] w fun e w'=>e = .returned (.tuple #[.int .i64 (k:Int),.int .i64 0])∧Below w.heap.size w w':=by
 refine (ru a n cap m w h).mono ?_;rintro e w' ⟨⟨j,rfl,hj,_⟩,hb⟩;obtain rfl:=hj.uniq hk;exact ⟨rfl,hb⟩
theorem qM(a:Option Addr)(cap:Nat)(w:World)(h:Num w a 0 0) :
  Calls Tryz.prog 62 #[.agg #[.bool false,.slice a 0 cap,.int .i64 0]] w fun e w'=>e = .returned (.int .i64 0)∧Below w.heap.size w w':=by
 have:=wM false a cap 0 w h;simpa using this
theorem sH{E F B:Nat}(h:Fo E F)(HB:Hid (B=2^(E-1)-1)):B≤1023:=by
 have h1:=aJ (show E-1≤10 by have:=h.e11;omega);rw [aa HB];omega
theorem Dk{E F B:Nat}(h:Fo E F)(HB:Hid (B=2^(E-1)-1)):2^E=2*B+2∧1≤B:=by
 have h2:=h.e2;obtain ⟨k,rfl⟩:∃k,E=k+2:=⟨E-2,by omega⟩;have:=aa HB;rw [show k+2-1=k+1 from by omega] at this;have h3:=aL k;rw [Nat.pow_succ] at this ⊢;rw [Nat.pow_succ];omega
theorem and_one(q:Nat)(hq:q<18446744073709551616):bits BinOp.and .u64 (q:Int) 1=((q%2:Nat):Int):=by
 show IntKind.u64.wrap ((BitVec.ofInt 64 (q:Int)&&&BitVec.ofInt 64 1).toNat:Int)=_
 have e1:BitVec.ofInt 64 (q:Int)=BitVec.ofNat 64 q:=by simp
 have e2:(BitVec.ofNat 64 q&&&BitVec.ofInt 64 1).toNat=q%2:=by
  rw [BitVec.toNat_and,BitVec.toNat_ofNat,Nat.mod_eq_of_lt (by omega)]
  show q&&&1=q%2
  exact Nat.and_one_is_mod q
 rw [e1,e2,IntKind.wrap_u64];omega
theorem Bj(s:Bool)(a:Option Addr)(n cap m dr mode:Nat)(z:Int)(w:World)(h:Num w a n m)(hcap:n≤cap)(hcap2:cap≤9223372036854775807)(hm:mode≤4)(hdr:0<dr)(hdr2:dr<4611686018427387904)(hq:m/2^dr<9223372036854775808) :
  Calls Tryz.prog 137 #[.agg #[.bool s,.slice a n cap,.int .i64 z],.int .i64 (z+(dr:Int)),.int .u8 (mode:Int)] w fun en w'=>en = .returned (.tuple #[.int .u64 (jW mode s m dr:Int),.bool false])∧Below w.heap.size w w':=by
 have ho:((((m/2^dr)%2:Nat):Int)==1)=decide (m/2^dr%2=1):=by
  by_cases h1:m/2^dr%2=1
  ·rw [h1];rfl
  ·have:m/2^dr%2=0:=by omega
   rw [this];rfl
 have HD:=hide fun (W:World) (g:Num W a n m)=>tF a n cap m dr W g hcap hcap2 (by omega);have HH:=hide fun (W:World) (A:Option Addr) (N C:Nat) (g:Num W A N m)=>xO A N C m dr W g (by omega) hdr2;have hF:=fun (W:World)=>mO mode s (decide (m/2^dr%2=1)) (lK m dr) hm (yH m dr) W;unfold jW;by_cases hf:bN mode s (decide (m/2^dr%2=1)) (lK m dr)=true
 ·rw [hf] at hF;rw [if_pos hf];exact Ic w s a n cap m z dr _ mode _ _ h hdr hdr2 hq (and_one _ (by omega)) ho HD HH (hide hF)
 ·rw [Bool.not_eq_true] at hf;rw [hf] at hF;rw [hf,if_neg (by simp)];exact BN w s a n cap m z dr _ mode _ _ h hdr hdr2 hq (and_one _ (by omega)) ho HD HH (hide hF)
theorem Ee(N k:Nat)(w:World)(hN:N<18446744073709551616)(hk:Bl N k):Calls Tryz.prog 165 #[.int .u64 (N:Int)] w fun e w'=>e = .returned (.int .i64 (k:Int))∧Below w.heap.size w w':=by
 refine (qo (N:Int) w (by omega) (by omega)).mono ?_;rintro e w' ⟨rfl,rfl⟩;have h1:Bl N (Lib.bitLen N):=iI 64 N (by simpa using hN) (by simpa using hN);have h2:=h1.uniq hk;exact ⟨by rw [Int.toNat_natCast,h2],Below.refl _ _⟩
theorem mR(a:Option Addr)(cap:Nat)(w:World)  :
  Calls Tryz.prog 135 #[.agg #[.slice a 0 cap]] w fun e w'=>e = .returned (.bool true)∧Below w.heap.size w w':=by
 go_enter Tryz.func135,Tryz.ntmps135
 go_wp2
 go_ret
 exact ⟨rfl,(Fs.one w _ _).fr⟩
theorem gJ(a:Option Addr)(n cap:Nat)(hn:0<n)(w:World)  :
  Calls Tryz.prog 135 #[.agg #[.slice a n cap]] w fun e w'=>e = .returned (.bool false)∧Below w.heap.size w w':=by
 go_enter Tryz.func135,Tryz.ntmps135
 go_wp2
 go_ret
 exact ⟨dP (by simp<;>omega),(Fs.one w _ _).fr⟩
theorem gP(N k:Nat)(t:Int)(w:World)(hN:N<18446744073709551616)(hk:Bl N k)(hk2:k≤64)(ht:-2147483648≤t∧t≤2147483648) :
  Calls Tryz.prog 138 #[.int .u64 N,.int .i64 t] w fun e w'=>e = .returned (.int .i64 ((k:Int)-1+t))∧Below w.heap.size w w':=by
 have HK:=hide hk;clear hk;go_enter Tryz.func138,Tryz.ntmps138
 go_wp2_with fail
 refine (Ee N k _ hN (aa HK)).mono ?_;rintro e w1 ⟨rfl,hb1⟩;have hS:=(Fs.begin w).kept hb1;go_wp2
 go_ret
 exact ⟨rfl,hS.fr⟩
theorem iy(mode:Nat)(hm:mode≤4)(w:World)  :
  Calls Tryz.prog 55 #[.int .u8 (mode:Int)] w fun e w'=>e = .returned (.int .i64 0)∧Below w.heap.size w w':=by
 go_enter Tryz.func55,Tryz.ntmps55
 go_wp2
 go_ret
 exact ⟨rfl,(Fs.begin w).fr⟩
theorem Cj(mode:Nat)(hm:4<mode)(w:World)  :
  Calls Tryz.prog 55 #[.int .u8 (mode:Int)] w fun e w'=>e = .returned (.int .i64 7)∧Below w.heap.size w w':=by
 go_enter Tryz.func55,Tryz.ntmps55
 go_wp2
 go_ret
 exact ⟨rfl,(Fs.begin w).fr⟩
theorem jU(s:Bool)(N st F h fr:Nat)(w:World)(hF:F≤52)(hst:st≤4096)(hh:h≤2)(HH:Hid (h=N/2^F))(HR:Hid (fr=N-h*2^F))(hN:N<9223372036854775808) :
  Calls Tryz.prog 142 #[.bool s,.int .u64 N,.int .i64 st,.int .i64 F] w fun e w'=>e = .returned (.agg #[.bool s,.int .i64 ((st:Int)+(h:Int)),.int .u64 fr])∧Below w.heap.size w w':=by
 have hpF:=aJ (show F≤52 from hF);have hp0:=aL F;have hle:h*2^F≤N:=by rw [aa HH];exact Nat.div_mul_le_self _ _
 have e1:((N:Int)/2^F)=(h:Int):=by rw [aa HH];simp
 have e4:IntKind.u64.wrap ((h:Int)*2^F)=(h:Int)*2^F:=by
  rw [show ((h:Int)*2^F)=((h*2^F:Nat):Int) from by simp,IntKind.wrap_u64];omega
 have e5:IntKind.u64.wrap ((N:Int)-(h:Int)*2^F)=(fr:Int):=by
  rw [show ((h:Int)*2^F)=((h*2^F:Nat):Int) from by simp,aa HR,IntKind.wrap_u64];omega
 go_enter Tryz.func142,Tryz.ntmps142
 go_wp2
 exact bodyPost_ret (v:=.agg #[.bool s,.int .i64 ((st:Int)+(h:Int)),.int .u64 fr]) (by simp [results,Tryz.results142,go_sem]) rfl ⟨rfl,(Fs.one w _ _).fr⟩
theorem BF(E F b m1 mode:Nat)(s:Bool)(h0:Fo E F)(w:World)(hB:Bt E F b s m1 0)(HM:Hid (m1=2^E-1))(HF:Hid (∀W:World,Calls Tryz.prog 164 #[.agg #[.bool s,.bool false,.int .i64 1],.int .u8 (mode:Int)] W fun e w'=>e = .returned (.bool true)∧Below W.heap.size W w')) :
  Calls Tryz.prog 139 #[.agg #[.int .i64 E,.int .i64 F],.bool s,.int .u8 (mode:Int)] w fun e w'=>e = .returned (.tuple #[.int .u64 b,.int .i64 0])∧Below w.heap.size w w':=by
 have H0:=hide h0;have HB:=hide hB;clear h0 hB;go_enter Tryz.func139,Tryz.ntmps139
 go_wp2_with fail
 have hS:Fs w (w.alloc (.cells #[.int .i64 E,.int .i64 F] 23)) [⟨w.heap.size,#[.int .i64 E,.int .i64 F],23⟩]:=Fs.one w _ _;replace hS:=hS.alloc #[.bool s,.bool false,.int .i64 1] 216
 try simp only [World.size_alloc] at hS
 go_wp2_with fail
 refine (aa HF _).mono ?_;rintro e w1 ⟨rfl,hb1⟩;replace hS:=hS.kept hb1;obtain ⟨⟨ya,yb,yc,-⟩,⟨yd,ye,-⟩,-⟩:=hS.cells;go_wp2_with fail
 refine (zL E F b m1 s (aa H0) (aa HB) HM _).mono ?_;rintro e w2 ⟨rfl,hb2⟩;replace hS:=hS.kept hb2;clear ya yb yc yd ye;obtain ⟨⟨yf,yg,yh,-⟩,⟨yi,yj,-⟩,-⟩:=hS.cells;go_wp2
 exact bodyPost_ret (v:=.tuple #[.int .u64 b,.int .i64 0]) (by simp [results,Tryz.results139,go_sem]) rfl ⟨rfl,hS.fr⟩
theorem CR(E F b m1 m0 mode:Nat)(s:Bool)(h0:Fo E F)(w:World)(hB:Bt E F b s m1 m0)(HM:Hid (m1+1=2^E-1))(HM0:Hid (m0=2^F-1))(HF:Hid (∀W:World,Calls Tryz.prog 164 #[.agg #[.bool s,.bool false,.int .i64 1],.int .u8 (mode:Int)] W fun e w'=>e = .returned (.bool false)∧Below W.heap.size W w')) :
  Calls Tryz.prog 139 #[.agg #[.int .i64 E,.int .i64 F],.bool s,.int .u8 (mode:Int)] w fun e w'=>e = .returned (.tuple #[.int .u64 b,.int .i64 0])∧Below w.heap.size w w':=by
 have H0:=hide h0;have HB:=hide hB;clear h0 hB;go_enter Tryz.func139,Tryz.ntmps139
 go_wp2_with fail
 have hS:Fs w (w.alloc (.cells #[.int .i64 E,.int .i64 F] 23)) [⟨w.heap.size,#[.int .i64 E,.int .i64 F],23⟩]:=Fs.one w _ _;replace hS:=hS.alloc #[.bool s,.bool false,.int .i64 1] 216
 try simp only [World.size_alloc] at hS
 go_wp2_with fail
 refine (aa HF _).mono ?_;rintro e w1 ⟨rfl,hb1⟩;replace hS:=hS.kept hb1;obtain ⟨⟨ya,yb,yc,-⟩,⟨yd,ye,-⟩,-⟩:=hS.cells;go_wp2_with fail
 refine (uo E F b m1 m0 s (aa H0) (aa HB) HM HM0 _).mono ?_;rintro e w2 ⟨rfl,hb2⟩;replace hS:=hS.kept hb2;clear ya yb yc yd ye;obtain ⟨⟨yf,yg,yh,-⟩,⟨yi,yj,-⟩,-⟩:=hS.cells;go_wp2
 exact bodyPost_ret (v:=.tuple #[.int .u64 b,.int .i64 0]) (by simp [results,Tryz.results139,go_sem]) rfl ⟨rfl,hS.fr⟩
theorem BG(s:Bool)(a:Option Addr)(n cap:Nat)(x free nm:Int)(mode N k:Nat)(wh:Bool)(w:World)(HC:Hid (∀W:World,Below w.heap.size w W→Calls Tryz.prog 137 #[.agg #[.bool s,.slice a n cap,.int .i64 x],.int .i64 free,.int .u8 (mode:Int)] W fun e w'=>e = .returned (.tuple #[.int .u64 N,.bool wh])∧Below W.heap.size W w'))(hN:N<18446744073709551616)(hk:Bl N k)(hk2:k≤64)(ht:-2147483648≤free∧free≤2147483648) :
  Calls Tryz.prog 140 #[.agg #[.bool s,.slice a n cap,.int .i64 x],.int .i64 free,.int .i64 nm,.int .u8 (mode:Int)] w fun e w'=>e = .returned (.bool (decide ((k:Int)-1+free<nm)))∧Below w.heap.size w w':=by
 have HK:=hide hk;clear hk;go_enter Tryz.func140,Tryz.ntmps140
 go_wp2_with fail
 refine (aa HC _ (ah _ _)).mono ?_;rintro e w1 ⟨rfl,hb1⟩;have hS:=(Fs.one w _ _).kept hb1;obtain ⟨⟨ya,yb,yc,-⟩,-⟩:=hS.cells;go_wp2_with fail
 refine (gP N k free _ hN (aa HK) hk2 ht).mono ?_;rintro e w2 ⟨rfl,hb2⟩;replace hS:=hS.kept hb2;clear ya yb yc;obtain ⟨⟨yd,ye,yf,-⟩,-⟩:=hS.cells;go_wp2
 go_ret
 exact ⟨rfl,hS.fr⟩
theorem o6(E F b st hd fr:Nat)(s:Bool)(h:Fo E F)(hB:Bt E F b s (st+hd) fr)(w:World):Calls Tryz.prog 141 #[.agg #[.int .i64 E,.int .i64 F],.agg #[.bool s,.int .i64 ((st:Int)+(hd:Int)),.int .u64 fr]] w fun e w'=>e = .returned (.tuple #[.int .u64 b,.int .i64 0])∧Below w.heap.size w w':=by
 have:=DK E F b (st+hd) fr s h hB w;rw [show (((st+hd:Nat)):Int)=(st:Int)+(hd:Int) from by omega] at this;exact this
theorem qg(E F b mode:Nat)(ng:Bool)(h0:Fo E F)(a:Option Addr)(cap:Nat)(w:World)(hB:Bt E F b ng 0 0) :
  Calls Tryz.prog 108 #[.agg #[.int .i64 E,.int .i64 F],.agg #[.bool false,.slice a 0 cap,.int .i64 0],.bool ng,.int .u8 (mode:Int)] w fun e w'=>e = .returned (.tuple #[.int .u64 b,.int .u8 0,.int .i64 0])∧Below w.heap.size w w':=by
 have H0:=hide h0;have HB:=hide hB;clear h0 hB;go_enter Tryz.func108,Tryz.ntmps108
 go_wp2_with fail
 refine (mR a cap _).mono ?_;rintro e w1 ⟨rfl,hb1⟩;have hS:=(Fs.two w _ _ _ _).kept hb1;obtain ⟨⟨ya,yb,-⟩,⟨yc,yd,ye,-⟩,-⟩:=hS.cells;go_wp2_with fail
 refine (zu E F b ng (aa H0) (aa HB) _).mono ?_;rintro e w2 ⟨rfl,hb2⟩;replace hS:=hS.kept hb2;clear ya yb yc yd ye;obtain ⟨⟨yf,yg,-⟩,⟨yh,yi,yj,-⟩,-⟩:=hS.cells;go_wp2
 exact bodyPost_ret (v:=.tuple #[.int .u64 b,.int .u8 0,.int .i64 0]) (by simp [results,Tryz.results108,go_sem]) rfl ⟨rfl,hS.fr⟩
theorem lG(E F B mode:Nat)(ng:Bool)(s:Bool)(a:Option Addr)(n cap m k:Nat)(x t:Int)(N kN:Nat)(wh:Bool)(b:Nat)(w:World)(h0:Fo E F)(HB:Hid (B=2^(E-1)-1))(h:Num w a n m)(hn:0<n)(hk:Bl m k)(hk2:k≤524288)(hx:-1073741824≤x∧x≤1073741824)(hat:max (1-(B:Int)-(F:Int)) (x+(k:Int)-1-(F:Int))=t)(HC:Hid (∀W:World,Num W a n m→Calls Tryz.prog 137 #[.agg #[.bool s,.slice a n cap,.int .i64 x],.int .i64 t,.int .u8 (mode:Int)] W fun e w'=>e = .returned (.tuple #[.int .u64 N,.bool wh])∧Below W.heap.size W w'))(hN:N<9223372036854775808)(hkN:Bl N kN)(hkN2:kN≤64)(hov:(B:Int)<(kN:Int)-1+t)(HO:Hid (∀W:World,Calls Tryz.prog 139 #[.agg #[.int .i64 E,.int .i64 F],.bool s,.int .u8 (mode:Int)] W fun e w'=>e = .returned (.tuple #[.int .u64 b,.int .i64 0])∧Below W.heap.size W w')) :
  Calls Tryz.prog 108 #[.agg #[.int .i64 E,.int .i64 F],.agg #[.bool s,.slice a n cap,.int .i64 x],.bool ng,.int .u8 (mode:Int)] w fun e w'=>e = .returned (.tuple #[.int .u64 b,.int .u8 3,.int .i64 0])∧Below w.heap.size w w':=by
 have H0:=hide h0;have H:=hide h;have HK:=hide hk;have HKN:=hide hkN;have hBl:B≤1023:=sH h0 HB;have hF:=h0.f52;have hF1:=h0.f1;clear h0 h hk hkN;go_enter Tryz.func108,Tryz.ntmps108
 go_wp2_with fail
 refine (gJ a n cap hn _).mono ?_;rintro e w1 ⟨rfl,hb1⟩;have hS:=(Fs.two w _ _ _ _).kept hb1;obtain ⟨⟨ya,yb,-⟩,⟨yc,yd,ye,-⟩,-⟩:=hS.cells;go_wp2_with fail
 refine (eO E F B (aa H0) HB _).mono ?_;rintro e w2 ⟨rfl,hb2⟩;replace hS:=hS.kept hb2;clear ya yb yc yd ye;obtain ⟨⟨yf,yg,-⟩,⟨yh,yi,yj,-⟩,-⟩:=hS.cells;go_wp2_with fail
 refine (oH a n cap m k _ ((aa H).kept hS.fr) (aa HK)).mono ?_;rintro e w3 ⟨rfl,hb3⟩;replace hS:=hS.kept hb3;clear yf yg yh yi yj;obtain ⟨⟨yk,yl,-⟩,⟨ym,yn,yo,-⟩,-⟩:=hS.cells;go_wp2_with fail
 refine (aa HC _ ((aa H).kept hS.fr)).mono ?_;rintro e w4 ⟨rfl,hb4⟩;replace hS:=hS.kept hb4;clear yk yl ym yn yo;obtain ⟨⟨yp,yq,-⟩,⟨yr,ys,yt,-⟩,-⟩:=hS.cells;go_wp2_with fail
 refine (gP N kN t _ (by omega) (aa HKN) hkN2 (by omega)).mono ?_;rintro e w5 ⟨rfl,hb5⟩;replace hS:=hS.kept hb5;clear yp yq yr ys yt;obtain ⟨⟨yu,yv,-⟩,⟨yw,yx,yy,-⟩,-⟩:=hS.cells;go_wp2_with fail
 refine (aa HO _).mono ?_;rintro e w6 ⟨rfl,hb6⟩;replace hS:=hS.kept hb6;clear yu yv yw yx yy;obtain ⟨⟨yz,y0,-⟩,⟨y1,y2,y3,-⟩,-⟩:=hS.cells;go_wp2
 exact bodyPost_ret (v:=.tuple #[.int .u64 b,.int .u8 3,.int .i64 0]) (by simp [results,Tryz.results108,go_sem]) rfl ⟨rfl,hS.fr⟩
theorem qG(E F B mode:Nat)(ng:Bool)(s:Bool)(a:Option Addr)(n cap m k:Nat)(x t:Int)(N kN:Nat)(b st hd fr:Nat)(w:World)(h0:Fo E F)(HB:Hid (B=2^(E-1)-1))(h:Num w a n m)(hn:0<n)(hk:Bl m k)(hk2:k≤524288)(hx:-1073741824≤x∧x≤1073741824)(hat:max (1-(B:Int)-(F:Int)) (x+(k:Int)-1-(F:Int))=t)(HC:Hid (∀W:World,Num W a n m→Calls Tryz.prog 137 #[.agg #[.bool s,.slice a n cap,.int .i64 x],.int .i64 t,.int .u8 (mode:Int)] W fun e w'=>e = .returned (.tuple #[.int .u64 N,.bool true])∧Below W.heap.size W w'))(hN:N<9223372036854775808)(hkN:Bl N kN)(hkN2:kN≤64)(hov:(kN:Int)-1+t≤(B:Int))(HS9:Hid (t-(1-(B:Int)-(F:Int))=(st:Int)))(hst:st≤4096)(hN2:hd=N/2^F)(hhd:hd≤2)(hfr:fr=N-hd*2^F)(hB:Bt E F b s (st+hd) fr) :
  Calls Tryz.prog 108 #[.agg #[.int .i64 E,.int .i64 F],.agg #[.bool s,.slice a n cap,.int .i64 x],.bool ng,.int .u8 (mode:Int)] w fun e w'=>e = .returned (.tuple #[.int .u64 b,.int .u8 0,.int .i64 0])∧Below w.heap.size w w':=by
 have H0:=hide h0;have H:=hide h;have HK:=hide hk;have HKN:=hide hkN;have hBl:B≤1023:=sH h0 HB;have hF:=h0.f52;have hF1:=h0.f1;clear h0 h hk hkN;have HBt:=hide hB;have HN2:=hide hN2;have HFR:=hide hfr;clear hB hN2 hfr;go_enter Tryz.func108,Tryz.ntmps108
 go_wp2_with fail
 refine (gJ a n cap hn _).mono ?_;rintro e w1 ⟨rfl,hb1⟩;have hS:=(Fs.two w _ _ _ _).kept hb1;obtain ⟨⟨ya,yb,-⟩,⟨yc,yd,ye,-⟩,-⟩:=hS.cells;go_wp2_with fail
 refine (eO E F B (aa H0) HB _).mono ?_;rintro e w2 ⟨rfl,hb2⟩;replace hS:=hS.kept hb2;clear ya yb yc yd ye;obtain ⟨⟨yf,yg,-⟩,⟨yh,yi,yj,-⟩,-⟩:=hS.cells;go_wp2_with fail
 refine (oH a n cap m k _ ((aa H).kept hS.fr) (aa HK)).mono ?_;rintro e w3 ⟨rfl,hb3⟩;replace hS:=hS.kept hb3;clear yf yg yh yi yj;obtain ⟨⟨yk,yl,-⟩,⟨ym,yn,yo,-⟩,-⟩:=hS.cells;go_wp2_with fail
 refine (aa HC _ ((aa H).kept hS.fr)).mono ?_;rintro e w4 ⟨rfl,hb4⟩;replace hS:=hS.kept hb4;clear yk yl ym yn yo;obtain ⟨⟨yp,yq,-⟩,⟨yr,ys,yt,-⟩,-⟩:=hS.cells;go_wp2_with fail
 refine (gP N kN t _ (by omega) (aa HKN) hkN2 (by omega)).mono ?_;rintro e w5 ⟨rfl,hb5⟩;replace hS:=hS.kept hb5;clear yp yq yr ys yt;obtain ⟨⟨yu,yv,-⟩,⟨yw,yx,yy,-⟩,-⟩:=hS.cells;have e9:t-(1-(B:Int)-(F:Int))=(st:Int):=aa HS9;go_wp2_with fail
 refine wp_region_any (by kernel_rfl) ?_;refine aM [some (102,.agg #[.int .i64 E,.int .i64 F]),some (103,.pointer (some ⟨w.heap.size+1,0,none⟩)),some (104,.bool s),some (105,.int .u64 N),some (106,.int .i64 t),some (107,.int .i64 (1-(B:Int)-(F:Int))),some (108,.int .i64 st),some (109,.pointer (some ⟨w.heap.size,1,none⟩)),some (110,.int .i64 F),some (111,.agg #[.bool s,.int .i64 ((st:Int)+(hd:Int)),.int .u64 fr]),some (112,.tuple #[.int .u64 b,.int .i64 0]),some (101,.tuple #[.int .u64 b,.int .i64 0]),some (113,.int .u64 b),some (114,.int .i64 0),some (24,.int .u64 b),some (15,.int .i64 0)]
  (fun _ W9=>Fs w W9 [⟨w.heap.size,#[.int .i64 E,.int .i64 F],23⟩,⟨w.heap.size+1,#[.bool s,.slice a n cap,.int .i64 x],58⟩]) _ _ rfl (by kernel_rfl) rfl rfl ?_ ?_ (hS).drew
 ·intro l9 t9 W9 i9 hD hi9 hl9 hM;obtain ⟨o9,ho9,hd9⟩:=(mem_ready.1 hi9).2;have hin9:i9<16:=by
   by_cases h:i9<16
   ·exact h
   ·rw [Array.getElem?_eq_none (by rw [hD.len];simp;omega)] at hl9;cases hl9
  have hcase:i9=0∨i9=1∨i9=2∨i9=3∨i9=4∨i9=5∨i9=6∨i9=7∨i9=8∨i9=9∨i9=10∨i9=11∨i9=12∨i9=13∨i9=14∨i9=15:=by omega
  clear hin9;rcases hcase with rfl|rfl|rfl|rfl|rfl|rfl|rfl|rfl|rfl|rfl|rfl|rfl|rfl|rfl|rfl|rfl
  ·cases ho9;have r4:=hD.old 4 _ rfl rfl;have hM0:=hM;have Q_:=hM0.cellAt (b:=w.heap.size) (cs:=#[.int .i64 E,.int .i64 F]) (t:=23) (by simp);have c9_0:=Q_ 0 _ rfl;have c9_1:=Q_ 1 _ rfl;clear Q_;clear hM0;refine wpOp_step rfl fun K hK=>?_;go_simp
   exact hK _ _ ⟨rfl,hM⟩
  ·cases ho9;have r5:=hD.old 5 _ rfl rfl;refine wpOp_step rfl fun K hK=>?_;go_simp
   exact hK _ _ ⟨rfl,hM⟩
  ·cases ho9;have r103:=hD.od hd9 1 103 _ rfl (by simp);have hM0:=hM;have c9_0:=hM0.cellAt (b:=w.heap.size+1) (cs:=#[.bool s,.slice a n cap,.int .i64 x]) (t:=58) (by simp) 0 _ rfl;clear hM0;refine wpOp_step rfl fun K hK=>?_;go_simp
   exact hK _ _ ⟨rfl,hM⟩
  ·cases ho9;have r19:=hD.old 19 _ rfl rfl;refine wpOp_step rfl fun K hK=>?_;go_simp
   exact hK _ _ ⟨rfl,hM⟩
  ·cases ho9;have r18:=hD.old 18 _ rfl rfl;refine wpOp_step rfl fun K hK=>?_;go_simp
   exact hK _ _ ⟨rfl,hM⟩
  ·cases ho9;have r13:=hD.old 13 _ rfl rfl;refine wpOp_step rfl fun K hK=>?_;go_simp
   exact hK _ _ ⟨rfl,hM⟩
  ·cases ho9;have r106:=hD.od hd9 4 106 _ rfl (by simp);have r107:=hD.od hd9 5 107 _ rfl (by simp);refine wpOp_step rfl fun K hK=>?_;go_simp
   exact hK _ _ ⟨aU (by (show Value.int _ _=Value.int _ _;first|exact congrArg (Value.int .i64) e9|(congr 1;first|exact e9|(rw [IntKind.wrap_i64];omega)))),hM⟩
  ·cases ho9;have r4:=hD.old 4 _ rfl rfl;refine wpOp_step rfl fun K hK=>?_;go_simp
   exact hK _ _ ⟨rfl,hM⟩
  ·cases ho9;have r109:=hD.od hd9 7 109 _ rfl (by simp);have hM0:=hM;have c9_0:=hM0.cellAt (b:=w.heap.size) (cs:=#[.int .i64 E,.int .i64 F]) (t:=23) (by simp) 1 _ rfl;clear hM0;refine wpOp_step rfl fun K hK=>?_;go_simp
   exact hK _ _ ⟨rfl,hM⟩
  ·cases ho9;have r104:=hD.od hd9 2 104 _ rfl (by simp);have r105:=hD.od hd9 3 105 _ rfl (by simp);have r108:=hD.od hd9 6 108 _ rfl (by simp);have r110:=hD.od hd9 8 110 _ rfl (by simp);refine wpOp_step rfl fun K hK=>?_;go_simp
   go_wp2_with fail
   refine (jU s N st F hd fr _ hF hst hhd HN2 HFR hN).mono ?_;rintro en w9 ⟨rfl,hb9⟩;exact hK _ _ ⟨rfl,hM.kept hb9⟩
  ·cases ho9;have r102:=hD.od hd9 0 102 _ rfl (by simp);have r111:=hD.od hd9 9 111 _ rfl (by simp);refine wpOp_step rfl fun K hK=>?_;go_simp
   go_wp2_with fail
   refine (o6 E F b st hd fr s (aa H0) (aa HBt) _).mono ?_;rintro en w9 ⟨rfl,hb9⟩;exact hK _ _ ⟨rfl,hM.kept hb9⟩
  ·cases ho9;have r112:=hD.od hd9 10 112 _ rfl (by simp);refine wpOp_step rfl fun K hK=>?_;go_simp
   exact hK _ _ ⟨rfl,hM⟩
  ·cases ho9;have r101:=hD.od hd9 11 101 _ rfl (by simp);refine wpOp_step rfl fun K hK=>?_;go_simp
   exact hK _ _ ⟨rfl,hM⟩
  ·cases ho9;have r101:=hD.od hd9 11 101 _ rfl (by simp);refine wpOp_step rfl fun K hK=>?_;go_simp
   exact hK _ _ ⟨rfl,hM⟩
  ·cases ho9;have r113:=hD.od hd9 12 113 _ rfl (by simp);refine wpOp_step rfl fun K hK=>?_;go_simp
   exact hK _ _ ⟨rfl,hM⟩
  ·cases ho9;have r114:=hD.od hd9 13 114 _ rfl (by simp);refine wpOp_step rfl fun K hK=>?_;go_simp
   exact hK _ _ ⟨rfl,hM⟩
 ·intro l9 W9 hl9 hM;clear hS yu yv yw yx yy;have hS:=hM;clear hM;simp only [ay.lay,List.setIfInBounds_toArray,List.set_cons_zero,List.set_cons_succ];obtain ⟨⟨yz,y0,-⟩,⟨y1,y2,y3,-⟩,-⟩:=hS.cells;go_wp2
  exact bodyPost_ret (v:=.tuple #[.int .u64 b,.int .u8 0,.int .i64 0]) (by simp [results,Tryz.results108,go_sem]) rfl ⟨rfl,hS.fr⟩
theorem qI(E F B mode:Nat)(ng:Bool)(s:Bool)(a:Option Addr)(n cap m k:Nat)(x t:Int)(N kN:Nat)(b st hd fr:Nat)(w:World)(h0:Fo E F)(HB:Hid (B=2^(E-1)-1))(h:Num w a n m)(hn:0<n)(hk:Bl m k)(hk2:k≤524288)(hx:-1073741824≤x∧x≤1073741824)(hat:max (1-(B:Int)-(F:Int)) (x+(k:Int)-1-(F:Int))=t)(HC:Hid (∀W:World,Num W a n m→Calls Tryz.prog 137 #[.agg #[.bool s,.slice a n cap,.int .i64 x],.int .i64 t,.int .u8 (mode:Int)] W fun e w'=>e = .returned (.tuple #[.int .u64 N,.bool false])∧Below W.heap.size W w'))(hN:N<9223372036854775808)(hkN:Bl N kN)(hkN2:kN≤64)(hov:(kN:Int)-1+t≤(B:Int))(HS9:Hid (t-(1-(B:Int)-(F:Int))=(st:Int)))(hst:st≤4096)(hN2:hd=N/2^F)(hhd:hd≤2)(hfr:fr=N-hd*2^F)(hB:Bt E F b s (st+hd) fr)(HM:Hid (∀W:World,Num W a n m→Calls Tryz.prog 140 #[.agg #[.bool s,.slice a n cap,.int .i64 x],.int .i64 (x+(k:Int)-1-(F:Int)),.int .i64 (1-(B:Int)),.int .u8 (mode:Int)] W fun e w'=>e = .returned (.bool true)∧Below W.heap.size W w')) :
  Calls Tryz.prog 108 #[.agg #[.int .i64 E,.int .i64 F],.agg #[.bool s,.slice a n cap,.int .i64 x],.bool ng,.int .u8 (mode:Int)] w fun e w'=>e = .returned (.tuple #[.int .u64 b,.int .u8 5,.int .i64 0])∧Below w.heap.size w w':=by
 have H0:=hide h0;have H:=hide h;have HK:=hide hk;have HKN:=hide hkN;have hBl:B≤1023:=sH h0 HB;have hF:=h0.f52;have hF1:=h0.f1;clear h0 h hk hkN;have o1:bits BinOp.or .u8 0 1=1:=by decide
 have o2:bits BinOp.or .u8 1 4=5:=by decide
 have HBt:=hide hB;have HN2:=hide hN2;have HFR:=hide hfr;clear hB hN2 hfr;go_enter Tryz.func108,Tryz.ntmps108
 go_wp2_with fail
 refine (gJ a n cap hn _).mono ?_;rintro e w1 ⟨rfl,hb1⟩;have hS:=(Fs.two w _ _ _ _).kept hb1;obtain ⟨⟨ya,yb,-⟩,⟨yc,yd,ye,-⟩,-⟩:=hS.cells;go_wp2_with fail
 refine (eO E F B (aa H0) HB _).mono ?_;rintro e w2 ⟨rfl,hb2⟩;replace hS:=hS.kept hb2;clear ya yb yc yd ye;obtain ⟨⟨yf,yg,-⟩,⟨yh,yi,yj,-⟩,-⟩:=hS.cells;go_wp2_with fail
 refine (oH a n cap m k _ ((aa H).kept hS.fr) (aa HK)).mono ?_;rintro e w3 ⟨rfl,hb3⟩;replace hS:=hS.kept hb3;clear yf yg yh yi yj;obtain ⟨⟨yk,yl,-⟩,⟨ym,yn,yo,-⟩,-⟩:=hS.cells;go_wp2_with fail
 refine (aa HC _ ((aa H).kept hS.fr)).mono ?_;rintro e w4 ⟨rfl,hb4⟩;replace hS:=hS.kept hb4;clear yk yl ym yn yo;obtain ⟨⟨yp,yq,-⟩,⟨yr,ys,yt,-⟩,-⟩:=hS.cells;go_wp2_with fail
 refine (gP N kN t _ (by omega) (aa HKN) hkN2 (by omega)).mono ?_;rintro e w5 ⟨rfl,hb5⟩;replace hS:=hS.kept hb5;clear yp yq yr ys yt;obtain ⟨⟨yu,yv,-⟩,⟨yw,yx,yy,-⟩,-⟩:=hS.cells;go_wp2_with fail
 refine (aa HM _ ((aa H).kept hS.fr)).mono ?_;rintro e w6 ⟨rfl,hb6⟩;replace hS:=hS.kept hb6;clear yu yv yw yx yy;obtain ⟨⟨yz,y0,-⟩,⟨y1,y2,y3,-⟩,-⟩:=hS.cells;have e9:t-(1-(B:Int)-(F:Int))=(st:Int):=aa HS9;go_wp2_with fail
 refine wp_region_any (by kernel_rfl) ?_;refine aM [some (102,.agg #[.int .i64 E,.int .i64 F]),some (103,.pointer (some ⟨w.heap.size+1,0,none⟩)),some (104,.bool s),some (105,.int .u64 N),some (106,.int .i64 t),some (107,.int .i64 (1-(B:Int)-(F:Int))),some (108,.int .i64 st),some (109,.pointer (some ⟨w.heap.size,1,none⟩)),some (110,.int .i64 F),some (111,.agg #[.bool s,.int .i64 ((st:Int)+(hd:Int)),.int .u64 fr]),some (112,.tuple #[.int .u64 b,.int .i64 0]),some (101,.tuple #[.int .u64 b,.int .i64 0]),some (113,.int .u64 b),some (114,.int .i64 0),some (24,.int .u64 b),some (15,.int .i64 0)]
  (fun _ W9=>Fs w W9 [⟨w.heap.size,#[.int .i64 E,.int .i64 F],23⟩,⟨w.heap.size+1,#[.bool s,.slice a n cap,.int .i64 x],58⟩]) _ _ rfl (by kernel_rfl) rfl rfl ?_ ?_ (hS).drew
 ·intro l9 t9 W9 i9 hD hi9 hl9 hM;obtain ⟨o9,ho9,hd9⟩:=(mem_ready.1 hi9).2;have hin9:i9<16:=by
   by_cases h:i9<16
   ·exact h
   ·rw [Array.getElem?_eq_none (by rw [hD.len];simp;omega)] at hl9;cases hl9
  have hcase:i9=0∨i9=1∨i9=2∨i9=3∨i9=4∨i9=5∨i9=6∨i9=7∨i9=8∨i9=9∨i9=10∨i9=11∨i9=12∨i9=13∨i9=14∨i9=15:=by omega
  clear hin9;rcases hcase with rfl|rfl|rfl|rfl|rfl|rfl|rfl|rfl|rfl|rfl|rfl|rfl|rfl|rfl|rfl|rfl
  ·cases ho9;have r4:=hD.old 4 _ rfl rfl;have hM0:=hM;have Q_:=hM0.cellAt (b:=w.heap.size) (cs:=#[.int .i64 E,.int .i64 F]) (t:=23) (by simp);have c9_0:=Q_ 0 _ rfl;have c9_1:=Q_ 1 _ rfl;clear Q_;clear hM0;refine wpOp_step rfl fun K hK=>?_;go_simp
   exact hK _ _ ⟨rfl,hM⟩
  ·cases ho9;have r5:=hD.old 5 _ rfl rfl;refine wpOp_step rfl fun K hK=>?_;go_simp
   exact hK _ _ ⟨rfl,hM⟩
  ·cases ho9;have r103:=hD.od hd9 1 103 _ rfl (by simp);have hM0:=hM;have c9_0:=hM0.cellAt (b:=w.heap.size+1) (cs:=#[.bool s,.slice a n cap,.int .i64 x]) (t:=58) (by simp) 0 _ rfl;clear hM0;refine wpOp_step rfl fun K hK=>?_;go_simp
   exact hK _ _ ⟨rfl,hM⟩
  ·cases ho9;have r19:=hD.old 19 _ rfl rfl;refine wpOp_step rfl fun K hK=>?_;go_simp
   exact hK _ _ ⟨rfl,hM⟩
  ·cases ho9;have r18:=hD.old 18 _ rfl rfl;refine wpOp_step rfl fun K hK=>?_;go_simp
   exact hK _ _ ⟨rfl,hM⟩
  ·cases ho9;have r13:=hD.old 13 _ rfl rfl;refine wpOp_step rfl fun K hK=>?_;go_simp
   exact hK _ _ ⟨rfl,hM⟩
  ·cases ho9;have r106:=hD.od hd9 4 106 _ rfl (by simp);have r107:=hD.od hd9 5 107 _ rfl (by simp);refine wpOp_step rfl fun K hK=>?_;go_simp
   exact hK _ _ ⟨aU (by (show Value.int _ _=Value.int _ _;first|exact congrArg (Value.int .i64) e9|(congr 1;first|exact e9|(rw [IntKind.wrap_i64];omega)))),hM⟩
  ·cases ho9;have r4:=hD.old 4 _ rfl rfl;refine wpOp_step rfl fun K hK=>?_;go_simp
   exact hK _ _ ⟨rfl,hM⟩
  ·cases ho9;have r109:=hD.od hd9 7 109 _ rfl (by simp);have hM0:=hM;have c9_0:=hM0.cellAt (b:=w.heap.size) (cs:=#[.int .i64 E,.int .i64 F]) (t:=23) (by simp) 1 _ rfl;clear hM0;refine wpOp_step rfl fun K hK=>?_;go_simp
   exact hK _ _ ⟨rfl,hM⟩
  ·cases ho9;have r104:=hD.od hd9 2 104 _ rfl (by simp);have r105:=hD.od hd9 3 105 _ rfl (by simp);have r108:=hD.od hd9 6 108 _ rfl (by simp);have r110:=hD.od hd9 8 110 _ rfl (by simp);refine wpOp_step rfl fun K hK=>?_;go_simp
   go_wp2_with fail
   refine (jU s N st F hd fr _ hF hst hhd HN2 HFR hN).mono ?_;rintro en w9 ⟨rfl,hb9⟩;exact hK _ _ ⟨rfl,hM.kept hb9⟩
  ·cases ho9;have r102:=hD.od hd9 0 102 _ rfl (by simp);have r111:=hD.od hd9 9 111 _ rfl (by simp);refine wpOp_step rfl fun K hK=>?_;go_simp
   go_wp2_with fail
   refine (o6 E F b st hd fr s (aa H0) (aa HBt) _).mono ?_;rintro en w9 ⟨rfl,hb9⟩;exact hK _ _ ⟨rfl,hM.kept hb9⟩
  ·cases ho9;have r112:=hD.od hd9 10 112 _ rfl (by simp);refine wpOp_step rfl fun K hK=>?_;go_simp
   exact hK _ _ ⟨rfl,hM⟩
  ·cases ho9;have r101:=hD.od hd9 11 101 _ rfl (by simp);refine wpOp_step rfl fun K hK=>?_;go_simp
   exact hK _ _ ⟨rfl,hM⟩
  ·cases ho9;have r101:=hD.od hd9 11 101 _ rfl (by simp);refine wpOp_step rfl fun K hK=>?_;go_simp
   exact hK _ _ ⟨rfl,hM⟩
  ·cases ho9;have r113:=hD.od hd9 12 113 _ rfl (by simp);refine wpOp_step rfl fun K hK=>?_;go_simp
   exact hK _ _ ⟨rfl,hM⟩
  ·cases ho9;have r114:=hD.od hd9 13 114 _ rfl (by simp);refine wpOp_step rfl fun K hK=>?_;go_simp
   exact hK _ _ ⟨rfl,hM⟩
 ·intro l9 W9 hl9 hM;clear hS yz y0 y1 y2 y3;have hS:=hM;clear hM;simp only [ay.lay,List.setIfInBounds_toArray,List.set_cons_zero,List.set_cons_succ];obtain ⟨⟨y4,y5,-⟩,⟨y6,y7,y8,-⟩,-⟩:=hS.cells;go_wp2
  exact bodyPost_ret (v:=.tuple #[.int .u64 b,.int .u8 5,.int .i64 0]) (by simp [results,Tryz.results108,go_sem]) rfl ⟨rfl,hS.fr⟩
theorem qL(E F B mode:Nat)(ng:Bool)(s:Bool)(a:Option Addr)(n cap m k:Nat)(x t:Int)(N kN:Nat)(b st hd fr:Nat)(w:World)(h0:Fo E F)(HB:Hid (B=2^(E-1)-1))(h:Num w a n m)(hn:0<n)(hk:Bl m k)(hk2:k≤524288)(hx:-1073741824≤x∧x≤1073741824)(hat:max (1-(B:Int)-(F:Int)) (x+(k:Int)-1-(F:Int))=t)(HC:Hid (∀W:World,Num W a n m→Calls Tryz.prog 137 #[.agg #[.bool s,.slice a n cap,.int .i64 x],.int .i64 t,.int .u8 (mode:Int)] W fun e w'=>e = .returned (.tuple #[.int .u64 N,.bool false])∧Below W.heap.size W w'))(hN:N<9223372036854775808)(hkN:Bl N kN)(hkN2:kN≤64)(hov:(kN:Int)-1+t≤(B:Int))(HS9:Hid (t-(1-(B:Int)-(F:Int))=(st:Int)))(hst:st≤4096)(hN2:hd=N/2^F)(hhd:hd≤2)(hfr:fr=N-hd*2^F)(hB:Bt E F b s (st+hd) fr)(HM:Hid (∀W:World,Num W a n m→Calls Tryz.prog 140 #[.agg #[.bool s,.slice a n cap,.int .i64 x],.int .i64 (x+(k:Int)-1-(F:Int)),.int .i64 (1-(B:Int)),.int .u8 (mode:Int)] W fun e w'=>e = .returned (.bool false)∧Below W.heap.size W w')) :
  Calls Tryz.prog 108 #[.agg #[.int .i64 E,.int .i64 F],.agg #[.bool s,.slice a n cap,.int .i64 x],.bool ng,.int .u8 (mode:Int)] w fun e w'=>e = .returned (.tuple #[.int .u64 b,.int .u8 1,.int .i64 0])∧Below w.heap.size w w':=by
 have H0:=hide h0;have H:=hide h;have HK:=hide hk;have HKN:=hide hkN;have hBl:B≤1023:=sH h0 HB;have hF:=h0.f52;have hF1:=h0.f1;clear h0 h hk hkN;have o1:bits BinOp.or .u8 0 1=1:=by decide
 have o2:bits BinOp.or .u8 1 4=5:=by decide
 have HBt:=hide hB;have HN2:=hide hN2;have HFR:=hide hfr;clear hB hN2 hfr;go_enter Tryz.func108,Tryz.ntmps108
 go_wp2_with fail
 refine (gJ a n cap hn _).mono ?_;rintro e w1 ⟨rfl,hb1⟩;have hS:=(Fs.two w _ _ _ _).kept hb1;obtain ⟨⟨ya,yb,-⟩,⟨yc,yd,ye,-⟩,-⟩:=hS.cells;go_wp2_with fail
 refine (eO E F B (aa H0) HB _).mono ?_;rintro e w2 ⟨rfl,hb2⟩;replace hS:=hS.kept hb2;clear ya yb yc yd ye;obtain ⟨⟨yf,yg,-⟩,⟨yh,yi,yj,-⟩,-⟩:=hS.cells;go_wp2_with fail
 refine (oH a n cap m k _ ((aa H).kept hS.fr) (aa HK)).mono ?_;rintro e w3 ⟨rfl,hb3⟩;replace hS:=hS.kept hb3;clear yf yg yh yi yj;obtain ⟨⟨yk,yl,-⟩,⟨ym,yn,yo,-⟩,-⟩:=hS.cells;go_wp2_with fail
 refine (aa HC _ ((aa H).kept hS.fr)).mono ?_;rintro e w4 ⟨rfl,hb4⟩;replace hS:=hS.kept hb4;clear yk yl ym yn yo;obtain ⟨⟨yp,yq,-⟩,⟨yr,ys,yt,-⟩,-⟩:=hS.cells;go_wp2_with fail
 refine (gP N kN t _ (by omega) (aa HKN) hkN2 (by omega)).mono ?_;rintro e w5 ⟨rfl,hb5⟩;replace hS:=hS.kept hb5;clear yp yq yr ys yt;obtain ⟨⟨yu,yv,-⟩,⟨yw,yx,yy,-⟩,-⟩:=hS.cells;go_wp2_with fail
 refine (aa HM _ ((aa H).kept hS.fr)).mono ?_;rintro e w6 ⟨rfl,hb6⟩;replace hS:=hS.kept hb6;clear yu yv yw yx yy;obtain ⟨⟨yz,y0,-⟩,⟨y1,y2,y3,-⟩,-⟩:=hS.cells;have e9:t-(1-(B:Int)-(F:Int))=(st:Int):=aa HS9;go_wp2_with fail
 refine wp_region_any (by kernel_rfl) ?_;refine aM [some (102,.agg #[.int .i64 E,.int .i64 F]),some (103,.pointer (some ⟨w.heap.size+1,0,none⟩)),some (104,.bool s),some (105,.int .u64 N),some (106,.int .i64 t),some (107,.int .i64 (1-(B:Int)-(F:Int))),some (108,.int .i64 st),some (109,.pointer (some ⟨w.heap.size,1,none⟩)),some (110,.int .i64 F),some (111,.agg #[.bool s,.int .i64 ((st:Int)+(hd:Int)),.int .u64 fr]),some (112,.tuple #[.int .u64 b,.int .i64 0]),some (101,.tuple #[.int .u64 b,.int .i64 0]),some (113,.int .u64 b),some (114,.int .i64 0),some (24,.int .u64 b),some (15,.int .i64 0)]
  (fun _ W9=>Fs w W9 [⟨w.heap.size,#[.int .i64 E,.int .i64 F],23⟩,⟨w.heap.size+1,#[.bool s,.slice a n cap,.int .i64 x],58⟩]) _ _ rfl (by kernel_rfl) rfl rfl ?_ ?_ (hS).drew
 ·intro l9 t9 W9 i9 hD hi9 hl9 hM;obtain ⟨o9,ho9,hd9⟩:=(mem_ready.1 hi9).2;have hin9:i9<16:=by
   by_cases h:i9<16
   ·exact h
   ·rw [Array.getElem?_eq_none (by rw [hD.len];simp;omega)] at hl9;cases hl9
  have hcase:i9=0∨i9=1∨i9=2∨i9=3∨i9=4∨i9=5∨i9=6∨i9=7∨i9=8∨i9=9∨i9=10∨i9=11∨i9=12∨i9=13∨i9=14∨i9=15:=by omega
  clear hin9;rcases hcase with rfl|rfl|rfl|rfl|rfl|rfl|rfl|rfl|rfl|rfl|rfl|rfl|rfl|rfl|rfl|rfl
  ·cases ho9;have r4:=hD.old 4 _ rfl rfl;have hM0:=hM;have Q_:=hM0.cellAt (b:=w.heap.size) (cs:=#[.int .i64 E,.int .i64 F]) (t:=23) (by simp);have c9_0:=Q_ 0 _ rfl;have c9_1:=Q_ 1 _ rfl;clear Q_;clear hM0;refine wpOp_step rfl fun K hK=>?_;go_simp
   exact hK _ _ ⟨rfl,hM⟩
  ·cases ho9;have r5:=hD.old 5 _ rfl rfl;refine wpOp_step rfl fun K hK=>?_;go_simp
   exact hK _ _ ⟨rfl,hM⟩
  ·cases ho9;have r103:=hD.od hd9 1 103 _ rfl (by simp);have hM0:=hM;have c9_0:=hM0.cellAt (b:=w.heap.size+1) (cs:=#[.bool s,.slice a n cap,.int .i64 x]) (t:=58) (by simp) 0 _ rfl;clear hM0;refine wpOp_step rfl fun K hK=>?_;go_simp
   exact hK _ _ ⟨rfl,hM⟩
  ·cases ho9;have r19:=hD.old 19 _ rfl rfl;refine wpOp_step rfl fun K hK=>?_;go_simp
   exact hK _ _ ⟨rfl,hM⟩
  ·cases ho9;have r18:=hD.old 18 _ rfl rfl;refine wpOp_step rfl fun K hK=>?_;go_simp
   exact hK _ _ ⟨rfl,hM⟩
  ·cases ho9;have r13:=hD.old 13 _ rfl rfl;refine wpOp_step rfl fun K hK=>?_;go_simp
   exact hK _ _ ⟨rfl,hM⟩
  ·cases ho9;have r106:=hD.od hd9 4 106 _ rfl (by simp);have r107:=hD.od hd9 5 107 _ rfl (by simp);refine wpOp_step rfl fun K hK=>?_;go_simp
   exact hK _ _ ⟨aU (by (show Value.int _ _=Value.int _ _;first|exact congrArg (Value.int .i64) e9|(congr 1;first|exact e9|(rw [IntKind.wrap_i64];omega)))),hM⟩
  ·cases ho9;have r4:=hD.old 4 _ rfl rfl;refine wpOp_step rfl fun K hK=>?_;go_simp
   exact hK _ _ ⟨rfl,hM⟩
  ·cases ho9;have r109:=hD.od hd9 7 109 _ rfl (by simp);have hM0:=hM;have c9_0:=hM0.cellAt (b:=w.heap.size) (cs:=#[.int .i64 E,.int .i64 F]) (t:=23) (by simp) 1 _ rfl;clear hM0;refine wpOp_step rfl fun K hK=>?_;go_simp
   exact hK _ _ ⟨rfl,hM⟩
  ·cases ho9;have r104:=hD.od hd9 2 104 _ rfl (by simp);have r105:=hD.od hd9 3 105 _ rfl (by simp);have r108:=hD.od hd9 6 108 _ rfl (by simp);have r110:=hD.od hd9 8 110 _ rfl (by simp);refine wpOp_step rfl fun K hK=>?_;go_simp
   go_wp2_with fail
   refine (jU s N st F hd fr _ hF hst hhd HN2 HFR hN).mono ?_;rintro en w9 ⟨rfl,hb9⟩;exact hK _ _ ⟨rfl,hM.kept hb9⟩
  ·cases ho9;have r102:=hD.od hd9 0 102 _ rfl (by simp);have r111:=hD.od hd9 9 111 _ rfl (by simp);refine wpOp_step rfl fun K hK=>?_;go_simp
   go_wp2_with fail
   refine (o6 E F b st hd fr s (aa H0) (aa HBt) _).mono ?_;rintro en w9 ⟨rfl,hb9⟩;exact hK _ _ ⟨rfl,hM.kept hb9⟩
  ·cases ho9;have r112:=hD.od hd9 10 112 _ rfl (by simp);refine wpOp_step rfl fun K hK=>?_;go_simp
   exact hK _ _ ⟨rfl,hM⟩
  ·cases ho9;have r101:=hD.od hd9 11 101 _ rfl (by simp);refine wpOp_step rfl fun K hK=>?_;go_simp
   exact hK _ _ ⟨rfl,hM⟩
  ·cases ho9;have r101:=hD.od hd9 11 101 _ rfl (by simp);refine wpOp_step rfl fun K hK=>?_;go_simp
   exact hK _ _ ⟨rfl,hM⟩
  ·cases ho9;have r113:=hD.od hd9 12 113 _ rfl (by simp);refine wpOp_step rfl fun K hK=>?_;go_simp
   exact hK _ _ ⟨rfl,hM⟩
  ·cases ho9;have r114:=hD.od hd9 13 114 _ rfl (by simp);refine wpOp_step rfl fun K hK=>?_;go_simp
   exact hK _ _ ⟨rfl,hM⟩
 ·intro l9 W9 hl9 hM;clear hS yz y0 y1 y2 y3;have hS:=hM;clear hM;simp only [ay.lay,List.setIfInBounds_toArray,List.set_cons_zero,List.set_cons_succ];obtain ⟨⟨y4,y5,-⟩,⟨y6,y7,y8,-⟩,-⟩:=hS.cells;go_wp2
  exact bodyPost_ret (v:=.tuple #[.int .u64 b,.int .u8 1,.int .i64 0]) (by simp [results,Tryz.results108,go_sem]) rfl ⟨rfl,hS.fr⟩
end Go.Proofs.YtaidedkpfnidpaaGreatDoor
