/- Of what TurnThereRow stands on: NrRdy ExRat NrFin RdAny TnLeaf TnTo TnMath TnToAny TnNat ExOf TnRun TnInt TnFrom TnFl TnFl2. -/
import Derived.Test.YtbgafednekomhaaGreatDoorPax
import Derived.Test.YtbgafednekomhaaGreatDoorPbc
import Derived.Test.YtbgafednekomhaaGreatDoorPau
import Derived.Test.YtbgafednekomhaaGreatDoorPaz
import Derived.Test.YtbgafednekomhaaGreatDoorPbb
import Derived.Laws.FloatArith
import Derived.Laws.Externs
import Derived.Test.YtbgafednekomhaaGreatDoorPaf
namespace Go.Proofs.YtbgafednekomhaaGreatDoor
open Go.RowKit
open Ieee
set_option maxHeartbeats 4000000
set_option maxRecDepth 20000
theorem rdyadic_is (E F mode:Nat) (h0:Fo E F) (hm:mode≤4) (s:Bool) (a:Option Addr) (n cap m:Nat) (x:Int) (ng:Bool) (gb fl:Int) (w:World) (B:Nat) (h:Mine w B a n cap m) (HC:Hid (∀ W:World,Num W a n m→Calls Tryz.prog 81 #[.agg #[.bool s,.slice a n cap,.int .i64 x]] W fun e w'=>e = .returned (.int .i64 0)∧Below W.heap.size W w')) (HR:Hid (∀ W:World,Mine W B a n cap m→Calls Tryz.prog 83 #[.agg #[.int .i64 E,.int .i64 F],.agg #[.bool s,.slice a n cap,.int .i64 x],.bool ng,.int .u8 (mode:Int)] W fun e w'=>e = .returned (.tuple #[.int .u64 gb,.int .u8 fl,.int .i64 0])∧Below W.heap.size W w')) :
  Calls Tryz.prog 40 #[.agg #[.int .i64 E,.int .i64 F],.agg #[.bool s,.slice a n cap,.int .i64 x],.bool ng,.int .u8 (mode:Int)] w fun e w'=>e = .returned (.tuple #[.int .u64 gb,.int .u8 fl,.int .i64 0])∧Below w.heap.size w w':=by
 have H:=hide h
 clear h
 go_enter Tryz.func40,Tryz.ntmps40
 go_wp2_with fail
 refine (check_ok _ _ _ h0).mono ?_
 rintro e w1 ⟨rfl,hb1⟩
 have hS:=(Fs.two w _ _ _ _).kept hb1
 obtain ⟨⟨ya,yb,-⟩,⟨yc,yd,ye,-⟩,-⟩:=hS.cells
 go_wp2_with fail
 refine (unhide HC _ ((unhide H).kept hS.fr).num).mono ?_
 rintro e w2 ⟨rfl,hb2⟩
 replace hS:=hS.kept hb2
 clear ya yb yc yd ye
 obtain ⟨⟨yf,yg,-⟩,⟨yh,yi,yj,-⟩,-⟩:=hS.cells
 go_wp2_with fail
 refine (mode_ok mode hm _).mono ?_
 rintro e w3 ⟨rfl,hb3⟩
 replace hS:=hS.kept hb3
 clear yf yg yh yi yj
 obtain ⟨⟨yk,yl,-⟩,⟨ym,yn,yo,-⟩,-⟩:=hS.cells
 go_wp2_with fail
 refine (unhide HR _ ((unhide H).kept hS.fr)).mono ?_
 rintro e w4 ⟨rfl,hb4⟩
 replace hS:=hS.kept hb4
 clear yk yl ym yn yo
 obtain ⟨⟨yp,yq,-⟩,⟨yr,ys,yt,-⟩,-⟩:=hS.cells
 go_wp2
 go_ret3
 exact ⟨rfl,hS.fr⟩
structure Xrok3S where
 (b0 b1 b2 b3 b4 b5 b6 b7 b8 b9 b10 b11:Bool)
 (v0 v1 v2 v3 v4 v5 v6 v7 v8 v9 v11:Value)
 (A0:Option Addr)
 (N0 C0:Nat)
 (A5:Option Addr)
 (N5 C5:Nat)
 bs9:List En
 os9:Os
structure Xrok3R (w:World) (s:Bool) (a:Option Addr) (n cap m:Nat) (z:Int) (i j V M:Nat) (er:Int) (yA2:Option Addr) (yN2 yC2:Nat) (w2:World) (S9:Nat) (b0 b1 b2 b3 b4 b5 b6 b7 b8 b9 b10 b11:Bool) (v0 v1 v2 v3 v4 v5 v6 v7 v8 v9 v11:Value) (A0:Option Addr) (N0 C0:Nat) (A5:Option Addr) (N5 C5:Nat) (bs9:List En) (os9:Os) (w':World):Prop where
 hc:Rc w S9 [⟨w2.heap.size,#[.slice yA2 yN2 yC2],40⟩,⟨w.heap.size+1,#[.bool false,.slice none 0 0,.slice none 0 0],88⟩,⟨w.heap.size,#[.bool s,.slice a n cap,.int .i64 z],42⟩] [(a,n,m)] [(yA2,yN2,yC2,V)] none bs9 os9 w'
 f0:b0 = true→v0 = .agg #[.slice A0 N0 C0]∧(A0,N0,C0,1)∈os9
 f1:b1 = true→v1 = .pointer (some ⟨w.heap.size,2,none⟩)
 f2:b2 = true→v2 = .int .i64 z
 f3:b3 = true→v3 = .int .i64 (-z)
 f4:b4 = true→v4 = .int .i64 j
 f5:b5 = true→v5 = .tuple #[.agg #[.slice A5 N5 C5],.int .i64 er]∧(A5,N5,C5,M)∈os9
 f6:b6 = true→v6 = .tuple #[.agg #[.slice A5 N5 C5],.int .i64 er]
 f7:b7 = true→v7 = .agg #[.slice A5 N5 C5]
 f8:b8 = true→v8 = .int .i64 er
 f9:b9 = true→AlV bs9 S9 v9 40
 f10:b10 = true→StV bs9 S9 v9 v7 40
 f11:b11 = true→v11 = .int .i64 er
 g5_0:b5 = true→b0 = true
 g6_5:b6 = true→b5 = true
 g6_0:b6 = true→b0 = true
 g7_5:b7 = true→b5 = true
 g7_0:b7 = true→b0 = true
 g8_5:b8 = true→b5 = true
 g8_0:b8 = true→b0 = true
 g10_9:b10 = true→b9 = true
 g10_7:b10 = true→b7 = true
 g10_5:b10 = true→b5 = true
 g10_0:b10 = true→b0 = true
 g11_5:b11 = true→b5 = true
 g11_0:b11 = true→b0 = true
def Xrok3I (w:World) (s:Bool) (a:Option Addr) (n cap m:Nat) (z:Int) (i j V M:Nat) (er:Int) (yA2:Option Addr) (yN2 yC2:Nat) (w2:World) (S9:Nat) (l:Array Bool) (act:Act) (w':World):Xrok3S→Prop
 | ⟨b0,b1,b2,b3,b4,b5,b6,b7,b8,b9,b10,b11,v0,v1,v2,v3,v4,v5,v6,v7,v8,v9,v11,A0,N0,C0,A5,N5,C5,bs9,os9⟩=>l = #[b0,b1,b2,b3,b4,b5,b6,b7,b8,b9,b10,b11]∧act = { tmps:=#[.agg #[.bool s,.slice a n cap,.int .i64 z],.pointer (some ⟨w.heap.size,0,none⟩),.pointer (some ⟨w.heap.size+1,0,none⟩),.int .i64 0,.int .i64 0,.pointer (some ⟨w2.heap.size,0,none⟩),v11,v9,.agg #[.bool s,.slice a n cap,.int .i64 z],.int .i64 0,.int .i64 0,.bool false,undef,undef,.tuple #[.agg #[.slice yA2 yN2 yC2],.int .i64 0],.pointer (some ⟨w.heap.size,1,none⟩),.agg #[.slice a n cap],.pointer (some ⟨w.heap.size,2,none⟩),.int .i64 z,.int .i64 i,.tuple #[.agg #[.slice yA2 yN2 yC2],.int .i64 0],.agg #[.slice yA2 yN2 yC2],.int .i64 0,.int .i64 0,.bool false,undef,undef,v6,v0,v1,v2,v3,v4,v5,v7,v8,undef,undef,undef,undef,undef,undef,undef,undef,undef],defers:=[] }∧Xrok3R w s a n cap m z i j V M er yA2 yN2 yC2 w2 S9 b0 b1 b2 b3 b4 b5 b6 b7 b8 b9 b10 b11 v0 v1 v2 v3 v4 v5 v6 v7 v8 v9 v11 A0 N0 C0 A5 N5 C5 bs9 os9 w'
theorem xr_ok (w:World) (s:Bool) (a:Option Addr) (n cap m:Nat) (z:Int) (i j V M:Nat) (er:Int) (h:Num w a n m) (hx:-1073741824≤z∧z≤1073741824) (hi:max z 0 = (i:Int)) (hj:max (-z) 0 = (j:Int)) (her:er = 0) (HC:Hid (∀ (W:World) (A:Option Addr) (N C:Nat),Num W A N m→Calls Tryz.prog 81 #[.agg #[.bool s,.slice A N C,.int .i64 z]] W fun e w'=>e = .returned (.int .i64 0)∧Below W.heap.size W w')) (HU:Hid (∀ (W:World) (A:Option Addr) (N C:Nat),Num W A N m→Calls Tryz.prog 84 #[.agg #[.slice A N C],.int .i64 (i:Int)] W fun en W'=>(∃ a n c,en = .returned (.tuple #[.agg #[.slice a n c],.int .i64 0])∧Mine W' W.heap.size a n c V)∧Below W.heap.size W W')) (HD:Hid (∀ (W:World) (A:Option Addr) (N C:Nat),Num W A N 1→Calls Tryz.prog 84 #[.agg #[.slice A N C],.int .i64 (j:Int)] W fun en W'=>(∃ a n c,en = .returned (.tuple #[.agg #[.slice a n c],.int .i64 er])∧Mine W' W.heap.size a n c M)∧Below W.heap.size W W')) :
  Calls Tryz.prog 44 #[.agg #[.bool s,.slice a n cap,.int .i64 z]] w fun en w'=>(∃ A N C A' N' C',en = .returned (.tuple #[.agg #[.bool s,.slice A N C,.slice A' N' C'],.int .i64 0])∧Mine w' w.heap.size A N C V∧Mine w' w.heap.size A' N' C' M)∧Below w.heap.size w w':=by
 have her2:(er != 0) = false:=by simp [her]
 have HE:=hide her
 clear her
 have hS:=Rs.begin w
 replace hS:=hS.num h
 replace hS:=hS.alloc #[.bool s,.slice a n cap,.int .i64 z] 42
 try simp only [World.size_alloc] at hS
 replace hS:=hS.alloc #[.bool false,.slice none 0 0,.slice none 0 0] 88
 try simp only [World.size_alloc] at hS
 go_enter Tryz.func44,Tryz.ntmps44
 go_wp2_with fail
 refine (unhide HC _ _ _ _ (hS.nm (a,n,m) (by simp))).mono ?_
 rintro en w1 ⟨rfl,hb9⟩
 have hz1:=hb9.size
 replace hS:=hS.kept hb9
 clear hb9
 simp only [World.size_alloc] at hz1
 obtain ⟨⟨k0_0,k0_1,k0_2,-⟩,-⟩:=hS.cz ⟨w.heap.size,#[.bool s,.slice a n cap,.int .i64 z],42⟩ (by simp)
 simp only [] at k0_0 k0_1 k0_2
 go_wp2_with fail
 clear k0_0 k0_1 k0_2
 try rw [hi]
 refine (W_oft hS (unhide HU _ _ _ _ (hS.nm (a,n,m) (by simp)))).mono ?_
 clear hS; rintro en w2 ⟨yA2,yN2,yC2,rfl,hS,hz2⟩
 replace hS:=hS.alloc #[.slice yA2 yN2 yC2] 40
 try simp only [World.size_alloc] at hS
 go_wp2_with fail
 refine wp_region_any (by kernel_rfl) ?_
 change wpAny _ _ _ _ _ _ _ (World.drew _)
 have hS9:=hS.drew
 have hsW9:(World.drew (w2.alloc (.cells #[.slice yA2 yN2 yC2] 40))).heap.size = w2.heap.size+1:=by first|rfl|simp
 generalize World.drew (w2.alloc (.cells #[.slice yA2 yN2 yC2] 40)) = Wd at hS9 hsW9 ⊢
 obtain ⟨S9,hS9z⟩:∃ x,x = Wd.heap.size:=⟨_,rfl⟩
 have hC9:=Rc.start (bs:=[⟨w2.heap.size,#[.slice yA2 yN2 yC2],40⟩,⟨w.heap.size+1,#[.bool false,.slice none 0 0,.slice none 0 0],88⟩,⟨w.heap.size,#[.bool s,.slice a n cap,.int .i64 z],42⟩]) hS9 (by simp)
 rw [← hS9z] at hC9
 refine wpAny_inv (fun l act w'=>∃ σ,Xrok3I w s a n cap m z i j V M er yA2 yN2 yC2 w2 S9 l act w' σ) ?_ ?_ _ _ _ _ ?_ ?_
 ·intro l act w' i9 hI9 hi9 hl9
  have hin9:i9 < 12:=by
   by_cases h:i9 < 12
   ·exact h
   ·obtain ⟨⟨⟩,rfl,_⟩:=hI9
    rw [Array.getElem?_eq_none (by simp; omega)] at hl9; cases hl9
  have hcase:i9 = 0∨i9 = 1∨i9 = 2∨i9 = 3∨i9 = 4∨i9 = 5∨i9 = 6∨i9 = 7∨i9 = 8∨i9 = 9∨i9 = 10∨i9 = 11:=by omega
  clear hin9
  obtain ⟨⟨b0,b1,b2,b3,b4,b5,b6,b7,b8,b9,b10,b11,v0,v1,v2,v3,v4,v5,v6,v7,v8,v9,v11,A0,N0,C0,A5,N5,C5,bs9,os9⟩,rfl,rfl,hR⟩:=hI9
  rcases hcase with rfl|rfl|rfl|rfl|rfl|rfl|rfl|rfl|rfl|rfl|rfl|rfl
  ·obtain rfl:b0 = false:=by simpa using hl9
   have hc:=hR.hc
   have HR:=hide hR
   clear hR
   refine wpOp_step rfl fun K hK=>?_
   go_simp
   go_wp2_with fail
   refine (W_of hc.st 1 (by omega)).mono ?_
   rintro en w9 ⟨a9,n9,c9,rfl,hs9,hz9⟩
   have hR:=unhide HR
   exact hK _ _ ⟨⟨_,_,_,_,_,_,_,_,_,_,_,_,_,_,_,_,_,_,_,_,_,_,_,_,_,_,A5,N5,C5,_,_⟩,rfl,rfl,{ hR with hc:=(hc.call hs9 hz9 (fun y hy=>List.mem_cons_of_mem _ hy)),f0:=(fun _=>⟨rfl,List.mem_cons_self ..⟩),f5:=(fun h=>Bool.noConfusion (hR.g5_0 h)),f6:=(fun h=>Bool.noConfusion (hR.g6_0 h)),f7:=(fun h=>Bool.noConfusion (hR.g7_0 h)),f8:=(fun h=>Bool.noConfusion (hR.g8_0 h)),f10:=(fun h=>Bool.noConfusion (hR.g10_0 h)),f11:=(fun h=>Bool.noConfusion (hR.g11_0 h)),g5_0:=(fun _=>rfl),g6_0:=(fun _=>rfl),g7_0:=(fun _=>rfl),g8_0:=(fun _=>rfl),g10_0:=(fun _=>rfl),g11_0:=(fun _=>rfl) }⟩
  ·obtain rfl:b1 = false:=by simpa using hl9
   have hc:=hR.hc
   refine wpOp_step rfl fun K hK=>?_
   go_simp
   exact hK _ _ ⟨⟨_,_,_,_,_,_,_,_,_,_,_,_,_,_,_,_,_,_,_,_,_,_,_,A0,N0,C0,A5,N5,C5,_,_⟩,rfl,rfl,{ hR with hc:=hc,f1:=(fun _=>rfl) }⟩
  ·obtain rfl:b2 = false:=by simpa using hl9
   obtain ⟨o9,ho9,hd9⟩:=(mem_ready.1 hi9).2
   cases ho9
   have e1:b1 = true:=hd9 ⟨1,.data⟩ (by simp) rfl
   subst e1
   have h9:=hR.f1 rfl
   subst h9
   have hc:=hR.hc
   have c9_0:=hc.st.cellAt (hc.old ⟨w.heap.size,#[.bool s,.slice a n cap,.int .i64 z],42⟩ (by simp)).1 2 (.int .i64 z) rfl
   simp only [] at c9_0
   refine wpOp_step rfl fun K hK=>?_
   go_simp
   exact hK _ _ ⟨⟨_,_,_,_,_,_,_,_,_,_,_,_,_,_,_,_,_,_,_,_,_,_,_,A0,N0,C0,A5,N5,C5,_,_⟩,rfl,rfl,{ hR with hc:=hc,f2:=(fun _=>rfl) }⟩
  ·obtain rfl:b3 = false:=by simpa using hl9
   obtain ⟨o9,ho9,hd9⟩:=(mem_ready.1 hi9).2
   cases ho9
   have e2:b2 = true:=hd9 ⟨2,.data⟩ (by simp) rfl
   subst e2
   have h9:=hR.f2 rfl
   subst h9
   have hc:=hR.hc
   refine wpOp_step rfl fun K hK=>?_
   go_simp
   exact hK _ _ ⟨⟨_,_,_,_,_,_,_,_,_,_,_,_,_,_,_,_,_,_,_,_,_,_,_,A0,N0,C0,A5,N5,C5,_,_⟩,rfl,rfl,{ hR with hc:=hc,f3:=(fun _=>by first|rfl|(show Value.int _ _ = Value.int _ _; congr 1; rw [IntKind.wrap_i64]; omega)) }⟩
  ·obtain rfl:b4 = false:=by simpa using hl9
   obtain ⟨o9,ho9,hd9⟩:=(mem_ready.1 hi9).2
   cases ho9
   have e3:b3 = true:=hd9 ⟨3,.data⟩ (by simp) rfl
   subst e3
   have h9:=hR.f3 rfl
   subst h9
   have hc:=hR.hc
   refine wpOp_step rfl fun K hK=>?_
   go_simp
   exact hK _ _ ⟨⟨_,_,_,_,_,_,_,_,_,_,_,_,_,_,_,_,_,_,_,_,_,_,_,A0,N0,C0,A5,N5,C5,_,_⟩,rfl,rfl,{ hR with hc:=hc,f4:=(fun _=>by first|rfl|(rw [hj])|simp [hj]|(congr 1)) }⟩
  ·obtain rfl:b5 = false:=by simpa using hl9
   obtain ⟨o9,ho9,hd9⟩:=(mem_ready.1 hi9).2
   cases ho9
   have e0:b0 = true:=hd9 ⟨0,.data⟩ (by simp) rfl
   have e4:b4 = true:=hd9 ⟨4,.data⟩ (by simp) rfl
   subst e0 e4
   have q0:=hR.f0 rfl
   obtain ⟨h9,q0m⟩:=q0
   subst h9
   have h9:=hR.f4 rfl
   subst h9
   have hc:=hR.hc
   have HR:=hide hR
   clear hR
   refine wpOp_step rfl fun K hK=>?_
   go_simp
   go_wp2_with fail
   refine (W_oft hc.st (unhide HD _ _ _ _ (hc.st.ow _ q0m).num)).mono ?_
   rintro en w9 ⟨a9,n9,c9,rfl,hs9,hz9⟩
   have hR:=unhide HR
   exact hK _ _ ⟨⟨_,_,_,_,_,_,_,_,_,_,_,_,_,_,_,_,_,_,_,_,_,_,_,A0,N0,C0,_,_,_,_,_⟩,rfl,rfl,{ hR with hc:=(hc.call hs9 hz9 (fun y hy=>List.mem_cons_of_mem _ hy)),f0:=(fun h=>⟨(hR.f0 h).1,List.mem_cons_of_mem _ (hR.f0 h).2⟩),f5:=(fun _=>⟨rfl,List.mem_cons_self ..⟩),f6:=(fun h=>Bool.noConfusion (hR.g6_5 h)),f7:=(fun h=>Bool.noConfusion (hR.g7_5 h)),f8:=(fun h=>Bool.noConfusion (hR.g8_5 h)),f10:=(fun h=>Bool.noConfusion (hR.g10_5 h)),f11:=(fun h=>Bool.noConfusion (hR.g11_5 h)),g5_0:=(fun _=>rfl),g6_5:=(fun _=>rfl),g7_5:=(fun _=>rfl),g8_5:=(fun _=>rfl),g10_5:=(fun _=>rfl),g11_5:=(fun _=>rfl) }⟩
  ·obtain rfl:b6 = false:=by simpa using hl9
   obtain ⟨o9,ho9,hd9⟩:=(mem_ready.1 hi9).2
   cases ho9
   have e5:b5 = true:=hd9 ⟨5,.data⟩ (by simp) rfl
   subst e5
   have q5:=hR.f5 rfl
   obtain ⟨h9,q5m⟩:=q5
   subst h9
   have hc:=hR.hc
   refine wpOp_step rfl fun K hK=>?_
   go_simp
   exact hK _ _ ⟨⟨_,_,_,_,_,_,_,_,_,_,_,_,_,_,_,_,_,_,_,_,_,_,_,A0,N0,C0,A5,N5,C5,_,_⟩,rfl,rfl,{ hR with hc:=hc,f6:=(fun _=>rfl),g6_5:=(fun _=>rfl),g6_0:=(fun _=>hR.g5_0 rfl) }⟩
  ·obtain rfl:b7 = false:=by simpa using hl9
   obtain ⟨o9,ho9,hd9⟩:=(mem_ready.1 hi9).2
   cases ho9
   have e6:b6 = true:=hd9 ⟨6,.data⟩ (by simp) rfl
   subst e6
   obtain rfl:b5 = true:=hR.g6_5 rfl
   have q5:=hR.f5 rfl
   obtain ⟨h9,q5m⟩:=q5
   subst h9
   obtain rfl:b0 = true:=hR.g6_0 rfl
   have q0:=hR.f0 rfl
   obtain ⟨h9,q0m⟩:=q0
   subst h9
   have h9:=hR.f6 rfl
   subst h9
   have hc:=hR.hc
   refine wpOp_step rfl fun K hK=>?_
   go_simp
   exact hK _ _ ⟨⟨_,_,_,_,_,_,_,_,_,_,_,_,_,_,_,_,_,_,_,_,_,_,_,A0,N0,C0,A5,N5,C5,_,_⟩,rfl,rfl,{ hR with hc:=hc,f7:=(fun _=>rfl),f10:=(fun h=>Bool.noConfusion (hR.g10_7 h)),g7_5:=(fun _=>rfl),g7_0:=(fun _=>rfl),g10_7:=(fun _=>rfl) }⟩
  ·obtain rfl:b8 = false:=by simpa using hl9
   obtain ⟨o9,ho9,hd9⟩:=(mem_ready.1 hi9).2
   cases ho9
   have e6:b6 = true:=hd9 ⟨6,.data⟩ (by simp) rfl
   subst e6
   obtain rfl:b5 = true:=hR.g6_5 rfl
   have q5:=hR.f5 rfl
   obtain ⟨h9,q5m⟩:=q5
   subst h9
   obtain rfl:b0 = true:=hR.g6_0 rfl
   have q0:=hR.f0 rfl
   obtain ⟨h9,q0m⟩:=q0
   subst h9
   have h9:=hR.f6 rfl
   subst h9
   have hc:=hR.hc
   refine wpOp_step rfl fun K hK=>?_
   go_simp
   exact hK _ _ ⟨⟨_,_,_,_,_,_,_,_,_,_,_,_,_,_,_,_,_,_,_,_,_,_,_,A0,N0,C0,A5,N5,C5,_,_⟩,rfl,rfl,{ hR with hc:=hc,f8:=(fun _=>rfl),g8_5:=(fun _=>rfl),g8_0:=(fun _=>rfl) }⟩
  ·obtain rfl:b9 = false:=by simpa using hl9
   have hc:=hR.hc
   refine wpOp_step rfl fun K hK=>?_
   go_simp
   exact hK _ _ ⟨⟨_,_,_,_,_,_,_,_,_,_,_,_,_,_,_,_,_,_,_,_,_,_,_,A0,N0,C0,A5,N5,C5,_,_⟩,rfl,rfl,{ hR with hc:=(hc.alloc #[.slice none 0 0] 40),f9:=(fun _=>AlV.self rfl hc.sz),f10:=(fun h=>Bool.noConfusion (hR.g10_9 h)),g10_9:=(fun _=>rfl) }⟩
  ·obtain rfl:b10 = false:=by simpa using hl9
   obtain ⟨o9,ho9,hd9⟩:=(mem_ready.1 hi9).2
   cases ho9
   have e7:b7 = true:=hd9 ⟨7,.data⟩ (by simp) rfl
   have e9:b9 = true:=hd9 ⟨9,.data⟩ (by simp) rfl
   subst e7 e9
   obtain rfl:b5 = true:=hR.g7_5 rfl
   have q5:=hR.f5 rfl
   obtain ⟨h9,q5m⟩:=q5
   subst h9
   obtain rfl:b0 = true:=hR.g7_0 rfl
   have q0:=hR.f0 rfl
   obtain ⟨h9,q0m⟩:=q0
   subst h9
   have h9:=hR.f7 rfl
   subst h9
   have hc:=hR.hc
   obtain ⟨g9,s9,h9,hg9,hm9⟩:=hR.f9 rfl
   subst h9
   have fz9:=hc.st.frozen hm9 0
   have cz9:=hc.st.cellAt hm9 0 s9 rfl
   simp only [] at fz9 cz9
   have hn9:∀ x,x∈([⟨w2.heap.size,#[.slice yA2 yN2 yC2],40⟩,⟨w.heap.size+1,#[.bool false,.slice none 0 0,.slice none 0 0],88⟩,⟨w.heap.size,#[.bool s,.slice a n cap,.int .i64 z],42⟩]:List En)→x.b≠g9:=fun x hx=>by have:=(hc.old x hx).2; omega
   refine wpOp_step rfl fun K hK=>?_
   go_simp
   exact hK _ _ ⟨⟨_,_,_,_,_,_,_,_,_,_,_,_,_,_,_,_,_,_,_,_,_,_,_,A0,N0,C0,A5,N5,C5,_,_⟩,rfl,rfl,{ hR with hc:=(hc.store hm9 (by have:=hc.w0s; omega) hn9 0 (.slice A5 N5 C5) (by simp)),f9:=(fun _=>AlV.self rfl hg9),f10:=(fun _=>⟨g9,_,rfl,hg9,rfl,List.mem_cons_self ..⟩),g10_9:=(fun _=>rfl),g10_7:=(fun _=>rfl),g10_5:=(fun _=>rfl),g10_0:=(fun _=>rfl) }⟩
  ·obtain rfl:b11 = false:=by simpa using hl9
   obtain ⟨o9,ho9,hd9⟩:=(mem_ready.1 hi9).2
   cases ho9
   have e8:b8 = true:=hd9 ⟨8,.data⟩ (by simp) rfl
   subst e8
   obtain rfl:b5 = true:=hR.g8_5 rfl
   have q5:=hR.f5 rfl
   obtain ⟨h9,q5m⟩:=q5
   subst h9
   obtain rfl:b0 = true:=hR.g8_0 rfl
   have q0:=hR.f0 rfl
   obtain ⟨h9,q0m⟩:=q0
   subst h9
   have h9:=hR.f8 rfl
   subst h9
   have hc:=hR.hc
   refine wpOp_step rfl fun K hK=>?_
   go_simp
   exact hK _ _ ⟨⟨_,_,_,_,_,_,_,_,_,_,_,_,_,_,_,_,_,_,_,_,_,_,_,A0,N0,C0,A5,N5,C5,_,_⟩,rfl,rfl,{ hR with hc:=hc,f11:=(fun _=>rfl),g11_5:=(fun _=>rfl),g11_0:=(fun _=>rfl) }⟩
 ·rintro l act Wq3 ⟨⟨b0,b1,b2,b3,b4,b5,b6,b7,b8,b9,b10,b11,v0,v1,v2,v3,v4,v5,v6,v7,v8,v9,v11,x3_A0,x3_N0,x3_C0,x3_A5,x3_N5,x3_C5,bs9,os9⟩,rfl,rfl,hR⟩ hr9
  obtain ⟨hc,f0,f1,f2,f3,f4,f5,f6,f7,f8,f9,f10,f11,g5_0,g6_5,g6_0,g7_5,g7_0,g8_5,g8_0,g10_9,g10_7,g10_5,g10_0,g11_5,g11_0⟩:=hR
  have eall:=all_done hr9 (by kernel_rfl) rfl
  obtain rfl:b0 = true:=eall 0 (by decide)
  obtain rfl:b1 = true:=eall 1 (by decide)
  obtain rfl:b2 = true:=eall 2 (by decide)
  obtain rfl:b3 = true:=eall 3 (by decide)
  obtain rfl:b4 = true:=eall 4 (by decide)
  obtain rfl:b5 = true:=eall 5 (by decide)
  obtain rfl:b6 = true:=eall 6 (by decide)
  obtain rfl:b7 = true:=eall 7 (by decide)
  obtain rfl:b8 = true:=eall 8 (by decide)
  obtain rfl:b9 = true:=eall 9 (by decide)
  obtain rfl:b10 = true:=eall 10 (by decide)
  obtain rfl:b11 = true:=eall 11 (by decide)
  clear hr9 eall
  obtain ⟨h9,q0m⟩:=f0 rfl
  subst h9
  have h9:=f1 rfl
  subst h9
  have h9:=f2 rfl
  subst h9
  have h9:=f3 rfl
  subst h9
  have h9:=f4 rfl
  subst h9
  obtain ⟨h9,q5m⟩:=f5 rfl
  subst h9
  have h9:=f6 rfl
  subst h9
  have h9:=f7 rfl
  subst h9
  have h9:=f8 rfl
  subst h9
  obtain ⟨x3_g9,s9,h9,hg9,hs9,hm9⟩:=f10 rfl
  subst h9
  obtain rfl:s9 = .slice x3_A5 x3_N5 x3_C5:=by simpa using hs9.symm
  clear hs9
  have h9:=f11 rfl
  subst h9
  have hbs9:∀ x,x∈([⟨x3_g9,#[.slice x3_A5 x3_N5 x3_C5],40⟩,⟨w2.heap.size,#[.slice yA2 yN2 yC2],40⟩,⟨w.heap.size+1,#[.bool false,.slice none 0 0,.slice none 0 0],88⟩,⟨w.heap.size,#[.bool s,.slice a n cap,.int .i64 z],42⟩]:List En)→x∈bs9:=by
   intro x hx
   rcases List.mem_cons.1 hx with rfl|hx
   ·exact hm9
   rcases List.mem_cons.1 hx with rfl|hx
   ·exact (hc.old _ (by simp)).1
   rcases List.mem_cons.1 hx with rfl|hx
   ·exact (hc.old _ (by simp)).1
   rcases List.mem_cons.1 hx with rfl|hx
   ·exact (hc.old _ (by simp)).1
   exact absurd hx List.not_mem_nil
  have hos9:∀ x,x∈([(x3_A0,x3_N0,x3_C0,1),(x3_A5,x3_N5,x3_C5,M),(yA2,yN2,yC2,V)]:Os)→x∈os9:=by
   intro x hx
   rcases List.mem_cons.1 hx with rfl|hx
   ·exact q0m
   rcases List.mem_cons.1 hx with rfl|hx
   ·exact q5m
   rcases List.mem_cons.1 hx with rfl|hx
   ·exact hc.oso _ (by simp)
   exact absurd hx List.not_mem_nil
  have hS:=hc.st.sub hbs9 (fun x hx=>hx) hos9
  have hsz9:=hc.sz
  rw [hS9z,hsW9] at hsz9
  have hlx3_g9:=hg9
  rw [hS9z,hsW9] at hlx3_g9
  have hux3_g9:=block_lt (hc.st.bx _ hm9).1
  simp only [] at hux3_g9
  clear hbs9 hos9 hc f0 f1 f2 f3 f4 f5 f6 f7 f8 f9 f10 f11 g5_0 g6_5 g6_0 g7_5 g7_0 g8_5 g8_0 g10_9 g10_7 g10_5 g10_0 g11_5 g11_0
  clear q0m q5m hm9 hg9
  have hz3:=hsz9
  clear hsz9 hS9z hS9 hC9 hsW9
  obtain ⟨⟨k0_0,-⟩,z0⟩:=hS.cz ⟨x3_g9,#[.slice x3_A5 x3_N5 x3_C5],40⟩ (by simp)
  have z0_0:=z0 0
  clear z0
  obtain ⟨⟨k1_0,-⟩,z1⟩:=hS.cz ⟨w2.heap.size,#[.slice yA2 yN2 yC2],40⟩ (by simp)
  have z1_0:=z1 0
  clear z1
  obtain ⟨⟨k2_0,k2_1,k2_2,-⟩,z2⟩:=hS.cz ⟨w.heap.size+1,#[.bool false,.slice none 0 0,.slice none 0 0],88⟩ (by simp)
  have z2_0:=z2 0
  have z2_1:=z2 1
  have z2_2:=z2 2
  clear z2
  obtain ⟨⟨k3_0,k3_1,k3_2,-⟩,z3⟩:=hS.cz ⟨w.heap.size,#[.bool s,.slice a n cap,.int .i64 z],42⟩ (by simp)
  have z3_0:=z3 0
  have z3_1:=z3 1
  have z3_2:=z3 2
  clear z3
  simp only [] at k0_0 z0_0 k1_0 z1_0 k2_0 z2_0 k2_1 z2_1 k2_2 z2_2 k3_0 z3_0 k3_1 z3_1 k3_2 z3_2
  go_wp2
  have u1:=hS.cellAt (x:=⟨w.heap.size+1,#[.bool false,.slice none 0 0,.slice none 0 0],88⟩) (by simp) 0 (.bool false) rfl
  have y1:=hS.frozen (x:=⟨w.heap.size+1,#[.bool false,.slice none 0 0,.slice none 0 0],88⟩) (by simp) 0
  simp only [] at u1 y1
  replace hS:=hS.put (x:=⟨w.heap.size+1,#[.bool false,.slice none 0 0,.slice none 0 0],88⟩) (by simp) (by simp only []; omega) 0 (.bool s) (by simp) [⟨w.heap.size+1,#[.bool s,.slice none 0 0,.slice none 0 0],88⟩,⟨x3_g9,#[.slice x3_A5 x3_N5 x3_C5],40⟩,⟨w2.heap.size,#[.slice yA2 yN2 yC2],40⟩,⟨w.heap.size,#[.bool s,.slice a n cap,.int .i64 z],42⟩] (by intro y hy; rcases List.mem_cons.1 hy with rfl|hy; exact Or.inl rfl; rcases List.mem_cons.1 hy with rfl|hy; exact Or.inr ⟨by simp,by simp only []; omega⟩; rcases List.mem_cons.1 hy with rfl|hy; exact Or.inr ⟨by simp,by simp only []; omega⟩; rcases List.mem_cons.1 hy with rfl|hy; exact Or.inr ⟨by simp,by simp only []; omega⟩; exact absurd hy List.not_mem_nil)
  have u2:=hS.cellAt (x:=⟨w.heap.size+1,#[.bool s,.slice none 0 0,.slice none 0 0],88⟩) (by simp) 1 (.slice none 0 0) rfl
  have y2:=hS.frozen (x:=⟨w.heap.size+1,#[.bool s,.slice none 0 0,.slice none 0 0],88⟩) (by simp) 1
  simp only [] at u2 y2
  replace hS:=hS.put (x:=⟨w.heap.size+1,#[.bool s,.slice none 0 0,.slice none 0 0],88⟩) (by simp) (by simp only []; omega) 1 (.slice yA2 yN2 yC2) (by simp) [⟨w.heap.size+1,#[.bool s,.slice yA2 yN2 yC2,.slice none 0 0],88⟩,⟨x3_g9,#[.slice x3_A5 x3_N5 x3_C5],40⟩,⟨w2.heap.size,#[.slice yA2 yN2 yC2],40⟩,⟨w.heap.size,#[.bool s,.slice a n cap,.int .i64 z],42⟩] (by intro y hy; rcases List.mem_cons.1 hy with rfl|hy; exact Or.inl rfl; rcases List.mem_cons.1 hy with rfl|hy; exact Or.inr ⟨by simp,by simp only []; omega⟩; rcases List.mem_cons.1 hy with rfl|hy; exact Or.inr ⟨by simp,by simp only []; omega⟩; rcases List.mem_cons.1 hy with rfl|hy; exact Or.inr ⟨by simp,by simp only []; omega⟩; exact absurd hy List.not_mem_nil)
  have u3:=hS.cellAt (x:=⟨w.heap.size+1,#[.bool s,.slice yA2 yN2 yC2,.slice none 0 0],88⟩) (by simp) 2 (.slice none 0 0) rfl
  have y3:=hS.frozen (x:=⟨w.heap.size+1,#[.bool s,.slice yA2 yN2 yC2,.slice none 0 0],88⟩) (by simp) 2
  simp only [] at u3 y3
  replace hS:=hS.put (x:=⟨w.heap.size+1,#[.bool s,.slice yA2 yN2 yC2,.slice none 0 0],88⟩) (by simp) (by simp only []; omega) 2 (.slice x3_A5 x3_N5 x3_C5) (by simp) [⟨w.heap.size+1,#[.bool s,.slice yA2 yN2 yC2,.slice x3_A5 x3_N5 x3_C5],88⟩,⟨x3_g9,#[.slice x3_A5 x3_N5 x3_C5],40⟩,⟨w2.heap.size,#[.slice yA2 yN2 yC2],40⟩,⟨w.heap.size,#[.bool s,.slice a n cap,.int .i64 z],42⟩] (by intro y hy; rcases List.mem_cons.1 hy with rfl|hy; exact Or.inl rfl; rcases List.mem_cons.1 hy with rfl|hy; exact Or.inr ⟨by simp,by simp only []; omega⟩; rcases List.mem_cons.1 hy with rfl|hy; exact Or.inr ⟨by simp,by simp only []; omega⟩; rcases List.mem_cons.1 hy with rfl|hy; exact Or.inr ⟨by simp,by simp only []; omega⟩; exact absurd hy List.not_mem_nil)
  exact bodyPost_ret (v:=.tuple #[.agg #[.bool s,.slice yA2 yN2 yC2,.slice x3_A5 x3_N5 x3_C5],.int .i64 0]) (by simp [results,Tryz.results44,go_sem,k2_0,k2_1,k2_2]) rfl ⟨⟨_,_,_,_,_,_,rfl,hS.ow (yA2,yN2,yC2,V) (by simp),hS.ow (x3_A5,x3_N5,x3_C5,M) (by simp)⟩,hS.fr⟩
 ·simp
 ·exact ⟨⟨false,false,false,false,false,false,false,false,false,false,false,false,undef,undef,undef,undef,undef,undef,undef,undef,undef,undef,.int .i64 0,none,0,0,none,0,0,_,_⟩,rfl,rfl,⟨hC9,nb,nb,nb,nb,nb,nb,nb,nb,nb,nb,nb,nb,nb,nb,nb,nb,nb,nb,nb,nb,nb,nb,nb,nb,nb⟩⟩
theorem mine_caps {w:World} {B:Nat} {a:Option Addr} {n c m:Nat} (h:Mine w B a n c m):n≤c∧c≤9223372036854775807:=by
 obtain ⟨xs,hn,ho,_⟩:=h
 obtain ⟨a',c',e,h1,h2,_⟩:=ho.lim
 cases e
 exact ⟨by omega,h2⟩
theorem vals_zero {E F B b:Nat} {s:Bool} (h0:Fo E F) (HB:Hid (B = 2 ^ (E - 1) - 1)) (hB:Bt E F b s 0 0):Vals E F b false 0 0:=fun W _=>by
 refine (Value_zero E F B b s W h0 HB hB).mono ?_
 rintro e w' ⟨rfl,hb⟩
 exact ⟨⟨none,0,0,rfl,mine_none _ _⟩,hb⟩
theorem vals_wo {E F B b ex fr M z:Nat} {s:Bool} {xe:Int} (h0:Fo E F) (HB:Hid (B = 2 ^ (E - 1) - 1)) (hB:Bt E F b s ex fr) (hW:Wo E F B ex fr M z xe):Vals E F b s (M / 2 ^ z) (xe+(z:Int)):=fun W hT=>
 Value_wo E F B b ex fr s M z xe W h0 HB hB hW hT
theorem nratio_ok {s:Bool} {m:Nat} {x:Int} (hA:OkD s m x) {i j:Nat} (hi:max x 0 = (i:Int)) (hj:max (-x) 0 = (j:Int)) (hV:¬ Over (m * 2 ^ i)) (hM:¬ Over (1 * 2 ^ j)) (W:World) (A:Option Addr) (N C:Nat) (g:Num W A N m) :
  Calls Tryz.prog 44 #[.agg #[.bool s,.slice A N C,.int .i64 x]] W fun e w'=>(∃ A N C A' N' C',e = .returned (.tuple #[.agg #[.bool s,.slice A N C,.slice A' N' C'],.int .i64 0])∧Mine w' W.heap.size A N C (m * 2 ^ i)∧Mine w' W.heap.size A' N' C' (1 * 2 ^ j))∧Below W.heap.size W w':=by
 have hx:-1073741824≤x∧x≤1073741824:=by
  rcases hA with ⟨_,_,h⟩|⟨_,h⟩
  ·omega
  ·exact h
 have up:∀ {u t:Nat},¬ Over (u * 2 ^ t)→t < 9223372036854775808→∀ (W:World) (A:Option Addr) (N C:Nat),Num W A N u→Calls Tryz.prog 84 #[.agg #[.slice A N C],.int .i64 (t:Int)] W fun en W'=>(∃ a n c,en = .returned (.tuple #[.agg #[.slice a n c],.int .i64 0])∧Mine W' W.heap.size a n c (u * 2 ^ t))∧Below W.heap.size W W':=fun hn ht W A N C g=>by
  refine (up_any A N C _ _ W g ht).mono ?_
  rintro e w' ⟨h1,hb⟩
  rcases h1 with h1|⟨_,h1⟩
  ·exact ⟨h1,hb⟩
  ·exact absurd h1 hn
 exact xr_ok W s A N C m x i j _ _ 0 g hx hi hj rfl (hide fun W A N C g=>dcheck_dy s A N C m x W ⟨g,hA⟩) (hide (up hV (by omega))) (hide (up hM (by omega)))
def blen (m:Nat):Nat:=if m = 0 then 0 else m.log2+1
theorem bl_blen (m:Nat):Bl m (blen m):=by
 unfold blen
 by_cases h:m = 0
 ·rw [if_pos h,h]; exact ⟨by decide,Or.inl rfl⟩
 ·rw [if_neg h]
  refine ⟨Nat.lt_log2_self,Or.inr ?_⟩
  rw [Nat.add_sub_cancel]
  exact Nat.log2_self_le h
theorem Bl.le_of {m k n:Nat} (h:Bl m k) (hm:m < 2 ^ n):k≤n:=by
 rcases h.2 with h0|h1
 ·omega
 ·exact Nat.le_of_not_lt fun hlt=>by
   have:2 ^ n≤2 ^ (k - 1):=pow_bound (by omega)
   omega
theorem Bl.gt_of {m k n:Nat} (h:Bl m k) (hm:2 ^ n≤m):n < k:=by
 refine Nat.lt_of_not_le fun hle=>?_
 have:=pow_bound hle
 have:=h.1
 omega
def cutR (md:Nat) (s:Bool) (m:Nat) (x t:Int):Nat:=if t≤x then m * 2 ^ (x - t).toNat else cutN md s m (t - x).toNat
def lastP (B F k:Nat) (x:Int):Int:=max (1 - (B:Int) - (F:Int)) (x+(k:Int) - 1 - (F:Int))
def rowR (B F md:Nat) (s:Bool) (m k:Nat) (x:Int):Nat:=(lastP B F k x - (1 - (B:Int) - (F:Int))).toNat * 2 ^ F+cutR md s m x (lastP B F k x)
def freeR (F md:Nat) (s:Bool) (m k:Nat) (x:Int):Int:=(blen (cutR md s m x (x+(k:Int) - 1 - (F:Int))):Int) - 1+(x+(k:Int) - 1 - (F:Int))
def flagR (B F I md:Nat) (s:Bool) (m k:Nat) (x:Int):Nat:=if I≤rowR B F md s m k x then 3 else if lastP B F k x≤x then 0 else if freeR F md s m k x < 1 - (B:Int) then 5 else 1
def bitsR (S I md:Nat) (s:Bool) (r:Nat):Nat:=(if s then S else 0)+(if r < I then r else if fth md s false 1 then I else I - 1)
theorem cut_le {md:Nat} {s:Bool} {m dr n:Nat} (h:m / 2 ^ dr < 2 ^ n):cutN md s m dr≤2 ^ n:=by
 unfold cutN; split <;> omega
theorem cut_ge {md:Nat} {s:Bool} {m dr n:Nat} (h:2 ^ n≤m / 2 ^ dr):2 ^ n≤cutN md s m dr:=by
 unfold cutN; omega
theorem cutR_le {md:Nat} {s:Bool} {m k F:Nat} {x t:Int} (hk:Bl m k) (h0:0 < m) (ht:x+(k:Int) - 1 - (F:Int)≤t):cutR md s m x t≤2 ^ (F+1):=by
 have hk1:=hk.1
 have hkp:0 < k:=by
  rcases Nat.eq_zero_or_pos k with h|h
  ·rw [h] at hk1; simp at hk1; omega
  ·exact h
 unfold cutR
 by_cases hx:t≤x
 ·rw [if_pos hx]
  obtain ⟨j,hj⟩:∃ j,(x - t).toNat = j:=⟨_,rfl⟩
  rw [hj]
  have hle:k+j≤F+1:=by omega
  have h1:m * 2 ^ j≤2 ^ k * 2 ^ j:=Nat.mul_le_mul_right _ (by omega)
  rw [← Nat.pow_add] at h1
  exact Nat.le_trans h1 (pow_bound hle)
 ·rw [if_neg hx]
  obtain ⟨j,hj⟩:∃ j,(t - x).toNat = j:=⟨_,rfl⟩
  rw [hj]
  refine cut_le ?_
  rw [Nat.div_lt_iff_lt_mul (pow_pos2 _),← Nat.pow_add]
  exact Nat.lt_of_lt_of_le hk1 (pow_bound (by omega))
theorem cutR_ge {md:Nat} {s:Bool} {m k F:Nat} {x t:Int} (hk:Bl m k) (h0:0 < m) (ht:x+(k:Int) - 1 - (F:Int) = t):2 ^ F≤cutR md s m x t:=by
 have hk1:=hk.1
 have hkp:0 < k:=by
  rcases Nat.eq_zero_or_pos k with h|h
  ·rw [h] at hk1; simp at hk1; omega
  ·exact h
 have hge:2 ^ (k - 1)≤m:=by rcases hk.2 with h|h; omega; exact h
 unfold cutR
 by_cases hx:t≤x
 ·rw [if_pos hx]
  obtain ⟨j,hj⟩:∃ j,(x - t).toNat = j:=⟨_,rfl⟩
  rw [hj]
  have h1:2 ^ (k - 1) * 2 ^ j≤m * 2 ^ j:=Nat.mul_le_mul_right _ hge
  rw [← Nat.pow_add] at h1
  exact Nat.le_trans (pow_bound (by omega)) h1
 ·rw [if_neg hx]
  obtain ⟨j,hj⟩:∃ j,(t - x).toNat = j:=⟨_,rfl⟩
  rw [hj]
  refine cut_ge ?_
  rw [Nat.le_div_iff_mul_le (pow_pos2 _),← Nat.pow_add]
  exact Nat.le_trans (pow_bound (by omega)) hge
theorem cut_any (s:Bool) (a:Option Addr) (n cap m md F k:Nat) (x t:Int) (w:World) (h:Num w a n m) (hcap:n≤cap) (hcap2:cap≤9223372036854775807) (hm:md≤4) (hk:Bl m k) (h0:0 < m) (hF:F≤52) (hx:-2147483648≤x∧x≤2147483648) (ht2:-2147483648≤t∧t≤2147483648) (ht:x+(k:Int) - 1 - (F:Int)≤t) :
  Calls Tryz.prog 117 #[.agg #[.bool s,.slice a n cap,.int .i64 x],.int .i64 t,.int .u8 (md:Int)] w fun e w'=>e = .returned (.tuple #[.int .u64 (cutR md s m x t:Int),.bool (decide (t≤x))])∧Below w.heap.size w w':=by
 have hk1:=hk.1
 have hkp:0 < k:=by
  rcases Nat.eq_zero_or_pos k with h|h
  ·rw [h] at hk1; simp at hk1; omega
  ·exact h
 have hle:=cutR_le (md:=md) (s:=s) hk h0 ht
 have hp53:2 ^ (F+1)≤2 ^ 53:=pow_bound (by omega)
 have e53:(2:Nat) ^ 53 = 9007199254740992:=by decide
 unfold cutR at *
 by_cases hxt:t≤x
 ·rw [if_pos hxt] at hle ⊢
  rw [decide_eq_true hxt]
  obtain ⟨j,hj⟩:∃ j,(x - t).toNat = j:=⟨_,rfl⟩
  rw [hj] at hle ⊢
  have hk53:m < 2 ^ 53:=Nat.lt_of_lt_of_le hk1 (pow_bound (by omega))
  have:=cut_whole s a n cap m j md x w h (by omega) (by omega) (by omega)
  rw [show x - (j:Int) = t from by omega] at this
  exact this
 ·rw [if_neg hxt] at hle ⊢
  rw [decide_eq_false hxt]
  obtain ⟨j,hj⟩:∃ j,(t - x).toNat = j:=⟨_,rfl⟩
  rw [hj] at hle ⊢
  have hq:m / 2 ^ j < 9223372036854775808:=by
   have:m / 2 ^ j≤cutN md s m j:=by unfold cutN; omega
   omega
  have:=cut_drop s a n cap m j md x w h hcap hcap2 hm (by omega) (by omega) hq
  rw [show x+(j:Int) = t from by omega] at this
  exact this
theorem bias2 {E B:Nat} (hE:2≤E) (HB:B = 2 ^ (E - 1) - 1):2 * B+1 = 2 ^ E - 1∧1≤B:=by
 obtain ⟨e,rfl⟩:∃ e,E = e+2:=⟨E - 2,by omega⟩
 rw [show e+2 - 1 = e+1 from by omega] at HB
 have h1:2 ^ (e+2) = 2 * 2 ^ (e+1):=by rw [Nat.pow_succ,Nat.mul_comm]
 have h2:2 ^ (e+1) = 2 * 2 ^ e:=by rw [Nat.pow_succ,Nat.mul_comm]
 have:=pow_pos2 e
 omega
theorem over_iff {B F N kN I:Nat} {t:Int} (hkN:Bl N kN) (hN:N≤2 ^ (F+1)) (hlo:t = 1 - (B:Int) - (F:Int)∨(1 - (B:Int) - (F:Int) < t∧2 ^ F≤N)) (hB:1≤B) (hI:I = (2 * B+1) * 2 ^ F) :
  (B:Int) < (kN:Int) - 1+t↔I≤(t - (1 - (B:Int) - (F:Int))).toNat * 2 ^ F+N:=by
 obtain ⟨st,hst⟩:∃ st,(t - (1 - (B:Int) - (F:Int))).toNat = st:=⟨_,rfl⟩
 rw [hst]
 have hts:t = (st:Int)+(1 - (B:Int) - (F:Int)):=by omega
 have p0:=pow_pos2 F
 have p1:2 ^ (F+1) = 2 * 2 ^ F:=by rw [Nat.pow_succ,Nat.mul_comm]
 have kle:kN≤F+2:=hkN.le_of (by rw [show F+2 = F+1+1 from rfl,Nat.pow_succ]; have:=pow_pos2 (F+1); omega)
 obtain ⟨P,hP⟩:∃ P,P = 2 ^ F:=⟨_,rfl⟩
 rw [p1] at hN
 rw [← hP] at hN hlo p0 hI ⊢
 by_cases c0:N < P
 ·have hz:st = 0:=by rcases hlo with h|h <;> omega
  have k0:kN≤F:=hkN.le_of (by rw [← hP]; exact c0)
  subst hz
  constructor
  ·intro h; omega
  ·intro h
   exfalso
   have:P≤(2 * B+1) * P:=Nat.le_mul_of_pos_left _ (by omega)
   omega
 ·have k1:F < kN:=hkN.gt_of (by rw [← hP]; omega)
  by_cases c1:N < 2 * P
  ·have k2:kN = F+1:=by
    have:=hkN.le_of (n:=F+1) (by rw [p1,← hP]; exact c1)
    omega
   constructor
   ·intro h
    have hs:2 * B≤st:=by omega
    have:=Nat.mul_le_mul_right P hs
    rw [hI,Nat.add_mul,Nat.one_mul]
    omega
   ·intro h
    have hs:2 * B≤st:=by
     refine Nat.le_of_not_lt fun hc=>?_
     have:=Nat.mul_le_mul_right P (show st+1≤2 * B from hc)
     rw [Nat.add_mul,Nat.one_mul] at this
     rw [hI,Nat.add_mul,Nat.one_mul] at h
     omega
    omega
  ·have k2:kN = F+2:=by
    have:=hkN.gt_of (n:=F+1) (by rw [p1,← hP]; omega)
    omega
   obtain ⟨Bm,rfl⟩:∃ Bm,B = Bm+1:=⟨B - 1,by omega⟩
   constructor
   ·intro h
    have hs:2 * Bm+1≤st:=by omega
    have h2:=Nat.mul_le_mul_right P hs
    rw [show 2 * (Bm+1)+1 = 2 * Bm+1+2 from by omega,Nat.add_mul] at hI
    omega
   ·intro h
    have hs:2 * Bm+1≤st:=by
     refine Nat.le_of_not_lt fun hc=>?_
     have h2:=Nat.mul_le_mul_right P (show st+1≤2 * Bm+1 from hc)
     rw [Nat.add_mul,Nat.one_mul] at h2
     rw [show 2 * (Bm+1)+1 = 2 * Bm+1+2 from by omega,Nat.add_mul] at hI
     omega
    omega
theorem Num.bl {w:World} {a:Option Addr} {n m k:Nat} (h:Num w a n m) (hk:Bl m k):k≤524288:=by
 have h1:=h.lt
 rw [show (4294967296:Nat) ^ Pl.top = 2 ^ (32 * Pl.top) from by rw [Nat.pow_mul]] at h1
 have:=hk.le_of h1
 have:=Pl.top_eq
 omega
theorem rounded_any {E F S I B md:Nat} (h:Fm E F S I) (hB:B = 2 ^ (E - 1) - 1) (hm:md≤4) (ng s:Bool) (a:Option Addr) (n cap m k:Nat) (x:Int) (W:World) (Bs:Nat) (g:Mine W Bs a n cap m) (hA:m % 2 = 1∧-1073741824≤x∧x≤1073741824) (hk:Bl m k) :
  Calls Tryz.prog 83 #[.agg #[.int .i64 E,.int .i64 F],.agg #[.bool s,.slice a n cap,.int .i64 x],.bool ng,.int .u8 (md:Int)] W fun e w'=>e = .returned (.tuple #[.int .u64 (bitsR S I md s (rowR B F md s m k x):Int),.int .u8 (flagR B F I md s m k x:Int),.int .i64 0])∧Below W.heap.size W w':=by
 obtain ⟨hc1,hc2⟩:=mine_caps g
 have h0:0 < m:=by omega
 have hn:0 < n:=by have:=g.num.zero; omega
 have hk2:=g.num.bl hk
 have hF:=h.fo.f52
 have hF1:=h.fo.f1
 have hE:=h.fo.e2
 obtain ⟨b2,b1⟩:=bias2 hE hB
 have hI:I = (2 * B+1) * 2 ^ F:=by rw [b2]; exact h.hI
 have hB10:B≤1023:=by
  have:=pow_bound (n:=E - 1) (k:=10) (by have:=h.fo.e11; omega)
  have e10:(2:Nat) ^ 10 = 1024:=by decide
  omega
 obtain ⟨t,ht⟩:∃ t,lastP B F k x = t:=⟨_,rfl⟩
 have htd:=ht
 unfold lastP at htd
 obtain ⟨N,hN⟩:∃ N,cutR md s m x t = N:=⟨_,rfl⟩
 have hNle:N≤2 ^ (F+1):=by rw [← hN]; exact cutR_le hk h0 (by omega)
 have hlo:t = 1 - (B:Int) - (F:Int)∨(1 - (B:Int) - (F:Int) < t∧2 ^ F≤N):=by
  by_cases c:t = 1 - (B:Int) - (F:Int)
  ·exact Or.inl c
  ·exact Or.inr ⟨by omega,by rw [← hN]; exact cutR_ge hk h0 (by omega)⟩
 have hkN:=bl_blen N
 have hiff:=over_iff hkN hNle hlo b1 hI
 have hp53:2 ^ (F+1)≤2 ^ 53:=pow_bound (by omega)
 have e53:(2:Nat) ^ 53 = 9007199254740992:=by decide
 have hkN2:blen N≤64:=hkN.le_of (Nat.lt_of_le_of_lt hNle (Nat.lt_of_le_of_lt hp53 (by decide)))
 have HC:∀ W:World,Num W a n m→Calls Tryz.prog 117 #[.agg #[.bool s,.slice a n cap,.int .i64 x],.int .i64 t,.int .u8 (md:Int)] W fun e w'=>e = .returned (.tuple #[.int .u64 N,.bool (decide (t≤x))])∧Below W.heap.size W w':=fun W g=>by
  have:=cut_any s a n cap m md F k x t W g hc1 hc2 hm hk h0 hF (by omega) (by omega) (by omega)
  rw [hN] at this
  exact this
 have hr:rowR B F md s m k x = (t - (1 - (B:Int) - (F:Int))).toNat * 2 ^ F+N:=by unfold rowR; rw [ht,hN]
 obtain ⟨st,hst⟩:∃ st,(t - (1 - (B:Int) - (F:Int))).toNat = st:=⟨_,rfl⟩
 rw [hst] at hr hiff
 unfold bitsR flagR
 rw [hr,ht]
 by_cases hov:I≤st * 2 ^ F+N
 ·rw [if_neg (show ¬ st * 2 ^ F+N < I by omega),if_pos hov]
  have hov2:=hiff.2 hov
  have hlt:=h.lt
  have hfar:=farther_any md s false 1 hm (Or.inr (Or.inr rfl))
  by_cases hf:fth md s false 1 = true
  ·rw [if_pos hf]
   have hbt:Bt E F ((if s then S else 0)+I) s (2 ^ E - 1) 0:=⟨pow_pos2 _,by have:=pow_pos2 E; omega,by rw [← h.hS,← h.hI]; cases s <;> simp⟩
   refine rounded_over E F B md ng s a n cap m k x t N (blen N) (decide (t≤x)) _ W h.fo (hide hB) g.num hn hk hk2 hA.2 htd (hide HC) (by omega) hkN hkN2 hov2 (hide fun W=>?_)
   exact over_inf E F _ (2 ^ E - 1) md s h.fo W hbt (hide rfl) (hide fun W=>by have:=hfar W; rw [hf] at this; exact this)
  ·rw [if_neg hf]
   have hf':fth md s false 1 = false:=by simpa using hf
   have hp:=pow_pos2 F
   have hE4:2 ^ 2≤2 ^ E:=pow_bound hE
   have hbt:Bt E F ((if s then S else 0)+(I - 1)) s (2 ^ E - 2) (2 ^ F - 1):=by
    refine ⟨by omega,by omega,?_⟩
    have e1:(2 ^ E - 2) * 2 ^ F+(2 ^ F - 1) = I - 1:=by
     rw [h.hI]
     obtain ⟨q,hq⟩:∃ q,2 ^ E = q+2:=⟨2 ^ E - 2,by omega⟩
     rw [hq,show q+2 - 2 = q from by omega,show q+2 - 1 = q+1 from by omega,Nat.add_mul,Nat.one_mul]
     omega
    rw [← h.hS,e1]; cases s <;> simp
   refine rounded_over E F B md ng s a n cap m k x t N (blen N) (decide (t≤x)) _ W h.fo (hide hB) g.num hn hk hk2 hA.2 htd (hide HC) (by omega) hkN hkN2 hov2 (hide fun W=>?_)
   exact over_top E F _ (2 ^ E - 2) (2 ^ F - 1) md s h.fo W hbt (hide (by omega)) (hide rfl) (hide fun W=>by have:=hfar W; rw [hf'] at this; exact this)
 ·rw [if_pos (show st * 2 ^ F+N < I by omega),if_neg hov]
  have hov2:(blen N:Int) - 1+t≤(B:Int):=by
   refine Int.not_lt.1 fun hc=>hov (hiff.1 hc)
  have hp:=pow_pos2 F
  have p1:2 ^ (F+1) = 2 * 2 ^ F:=by rw [Nat.pow_succ,Nat.mul_comm]
  obtain ⟨hd,hhd⟩:∃ hd,hd = N / 2 ^ F:=⟨_,rfl⟩
  have hdm:=Nat.div_add_mod N (2 ^ F)
  have hml:=Nat.mod_lt N hp
  rw [← hhd,Nat.mul_comm] at hdm
  have hd2:hd≤2:=by
   rw [hhd]
   exact Nat.le_of_lt_succ ((Nat.div_lt_iff_lt_mul hp).2 (by omega))
  have hsum:(st+hd) * 2 ^ F+N % 2 ^ F = st * 2 ^ F+N:=by rw [Nat.add_mul]; omega
  have hlt2:st+hd < 2 ^ E - 1:=by
   refine Nat.lt_of_not_le fun hc=>?_
   have:=Nat.mul_le_mul_right (2 ^ F) hc
   rw [← h.hI] at this
   omega
  have hE11:2 ^ E≤2 ^ 11:=pow_bound h.fo.e11
  have e11:(2:Nat) ^ 11 = 2048:=by decide
  have hfr:N % 2 ^ F = N - hd * 2 ^ F:=by omega
  have hbt:Bt E F ((if s then S else 0)+(st * 2 ^ F+N)) s (st+hd) (N % 2 ^ F):=⟨hml,by omega,by rw [hsum,← h.hS]; cases s <;> simp⟩
  have HS9:Hid (t - (1 - (B:Int) - (F:Int)) = (st:Int)):=hide (by omega)
  by_cases hw:t≤x
  ·rw [if_pos hw]
   rw [decide_eq_true hw] at HC
   exact rounded_whole E F B md ng s a n cap m k x t N (blen N) _ st hd (N % 2 ^ F) W h.fo (hide hB) g.num hn hk hk2 hA.2 htd (hide HC) (by omega) hkN hkN2 hov2 HS9 (by omega) hhd hd2 hfr hbt
  ·rw [if_neg hw]
   rw [decide_eq_false hw] at HC
   obtain ⟨N2,hN2⟩:∃ N2,cutR md s m x (x+(k:Int) - 1 - (F:Int)) = N2:=⟨_,rfl⟩
   have hN2le:N2≤2 ^ (F+1):=by rw [← hN2]; exact cutR_le hk h0 (Int.le_refl _)
   have HM:∀ W:World,Num W a n m→Calls Tryz.prog 120 #[.agg #[.bool s,.slice a n cap,.int .i64 x],.int .i64 (x+(k:Int) - 1 - (F:Int)),.int .i64 (1 - (B:Int)),.int .u8 (md:Int)] W fun e w'=>e = .returned (.bool (decide ((blen N2:Int) - 1+(x+(k:Int) - 1 - (F:Int)) < 1 - (B:Int))))∧Below W.heap.size W w':=fun W g=>by
    refine small_is s a n cap x _ _ md N2 (blen N2) (decide (x+(k:Int) - 1 - (F:Int)≤x)) W (hide fun W' hb=>?_) (by omega) (bl_blen N2) ((bl_blen N2).le_of (Nat.lt_of_le_of_lt hN2le (Nat.lt_of_le_of_lt hp53 (by decide)))) (by omega)
    have:=cut_any s a n cap m md F k x (x+(k:Int) - 1 - (F:Int)) W' (g.kept hb) hc1 hc2 hm hk h0 hF (by omega) (by omega) (Int.le_refl _)
    rw [hN2] at this
    exact this
   have hfree:freeR F md s m k x = (blen N2:Int) - 1+(x+(k:Int) - 1 - (F:Int)):=by unfold freeR; rw [hN2]
   rw [hfree]
   by_cases hs:(blen N2:Int) - 1+(x+(k:Int) - 1 - (F:Int)) < 1 - (B:Int)
   ·rw [if_pos hs]
    rw [decide_eq_true hs] at HM
    exact rounded_small E F B md ng s a n cap m k x t N (blen N) _ st hd (N % 2 ^ F) W h.fo (hide hB) g.num hn hk hk2 hA.2 htd (hide HC) (by omega) hkN hkN2 hov2 HS9 (by omega) hhd hd2 hfr hbt (hide HM)
   ·rw [if_neg hs]
    rw [decide_eq_false hs] at HM
    exact rounded_plain E F B md ng s a n cap m k x t N (blen N) _ st hd (N % 2 ^ F) W h.fo (hide hB) g.num hn hk hk2 hA.2 htd (hide HC) (by omega) hkN hkN2 hov2 HS9 (by omega) hhd hd2 hfr hbt (hide HM)
theorem rdyadic_any {E F S I B md:Nat} (h:Fm E F S I) (hB:B = 2 ^ (E - 1) - 1) (hm:md≤4) (ng s:Bool) (a:Option Addr) (n cap m k:Nat) (x:Int) (W:World) (Bs:Nat) (g:Mine W Bs a n cap m) (hA:m % 2 = 1∧-1073741824≤x∧x≤1073741824) (hk:Bl m k) :
  Calls Tryz.prog 40 #[.agg #[.int .i64 E,.int .i64 F],.agg #[.bool s,.slice a n cap,.int .i64 x],.bool ng,.int .u8 (md:Int)] W fun e w'=>e = .returned (.tuple #[.int .u64 (bitsR S I md s (rowR B F md s m k x):Int),.int .u8 (flagR B F I md s m k x:Int),.int .i64 0])∧Below W.heap.size W w':=
 rdyadic_is E F md h.fo hm s a n cap m x ng _ _ W Bs g (hide fun W g=>dcheck_dy s a n cap m x W ⟨g,Or.inr hA⟩) (hide fun W g=>rounded_any h hB hm ng s a n cap m k x W Bs g hA hk)
theorem tmode_ok (md:Nat) (hm:md≤4) (w:World) (hN:Nb w) :
  Calls Tryz.prog 35 #[.int .u8 (md:Int)] w fun e w'=>e = .returned (.int .i64 0)∧Below w.heap.size w w':=by
 have HN:=hide hN
 clear hN
 go_enter Tryz.func35,Tryz.ntmps35
 go_wp2_with fail
 refine (name_ok md hm _ (unhide HN)).mono ?_
 rintro e w1 ⟨⟨str,rfl⟩,hb1⟩
 have hS:=(Fs.begin w).kept hb1
 clear hm
 go_wp2
 go_ret
 exact ⟨rfl,hS.fr⟩
theorem tkind_is (E F b c ex fr:Int) (neg:Bool) (HC:Tel 13 #[.agg #[.int .i64 E,.int .i64 F],.int .u64 b] (.tuple #[.int .u8 c,.int .i64 0])) (HS:Tel 56 #[.agg #[.int .i64 E,.int .i64 F],.int .u64 b] (.tuple #[.agg #[.bool neg,.int .i64 ex,.int .u64 fr],.int .i64 0])) (w:World)  :
  Calls Tryz.prog 36 #[.agg #[.int .i64 E,.int .i64 F],.int .u64 b] w fun e w'=>e = .returned (.tuple #[.int .u8 c,.bool neg])∧Below w.heap.size w w':=by
 go_enter Tryz.func36,Tryz.ntmps36
 go_wp2_with fail
 refine (HC _).mono ?_
 rintro e w1 ⟨rfl,hb1⟩
 have hS:=(Fs.one w _ _).kept hb1
 obtain ⟨⟨ya,yb,-⟩,-⟩:=hS.cells
 go_wp2_with fail
 refine (HS _).mono ?_
 rintro e w2 ⟨rfl,hb2⟩
 replace hS:=hS.kept hb2
 clear ya yb
 obtain ⟨⟨yc,yd,-⟩,-⟩:=hS.cells
 have hltw2_0:w.heap.size < w2.heap.size:=hS.lt 0 rfl
 obtain ⟨WV,hWV⟩:∃ WV,w2.alloc (.cells #[.bool neg,.int .i64 ex,.int .u64 fr] 103) = WV:=⟨_,rfl⟩
 replace hS:=hS.alloc #[.bool neg,.int .i64 ex,.int .u64 fr] 103
 rw [hWV] at hS
 clear yc yd
 obtain ⟨⟨ye,yf,yg,-⟩,⟨yh,yi,-⟩,-⟩:=hS.cells
 go_wp2_with fail
 refine wp_region_any (by kernel_rfl) ?_
 refine wpAny_det [some (20,.int .u8 c),some (21,.pointer (some ⟨w2.heap.size,0,none⟩)),some (22,.bool neg),some (4,.int .u8 c),some (5,.bool neg)]
  (fun _ W9=>Fs w W9 [⟨w2.heap.size,#[.bool neg,.int .i64 ex,.int .u64 fr],103⟩,⟨w.heap.size,#[.int .i64 E,.int .i64 F],24⟩]) _ _ rfl (by kernel_rfl) rfl rfl ?_ ?_ (hS).drew
 ·intro l9 t9 W9 i9 hD hi9 hl9 hM
  obtain ⟨o9,ho9,hd9⟩:=(mem_ready.1 hi9).2
  have hin9:i9 < 5:=by
   by_cases h:i9 < 5
   ·exact h
   ·rw [Array.getElem?_eq_none (by rw [hD.len]; simp; omega)] at hl9; cases hl9
  have hcase:i9 = 0∨i9 = 1∨i9 = 2∨i9 = 3∨i9 = 4:=by omega
  clear hin9
  rcases hcase with rfl|rfl|rfl|rfl|rfl
  ·cases ho9
   have r4:=hD.wait rfl 0 3 4 _ _ _ ⟨0,.data⟩ hl9 rfl rfl (by simp) rfl rfl rfl
   refine wpOp_step rfl fun K hK=>?_
   go_simp
   exact hK _ _ ⟨rfl,hM⟩
  ·cases ho9
   have r6:=hD.old 6 _ rfl rfl
   refine wpOp_step rfl fun K hK=>?_
   go_simp
   exact hK _ _ ⟨rfl,hM⟩
  ·cases ho9
   have r21:=hD.od hd9 1 21 _ rfl (by simp)
   have hM0:=hM
   have c9_0:=hM0.cellAt (b:=w2.heap.size) (cs:=#[.bool neg,.int .i64 ex,.int .u64 fr]) (t:=103) (by simp) 0 _ rfl
   clear hM0
   refine wpOp_step rfl fun K hK=>?_
   go_simp
   exact hK _ _ ⟨rfl,hM⟩
  ·cases ho9
   have r20:=hD.od hd9 0 20 _ rfl (by simp)
   refine wpOp_step rfl fun K hK=>?_
   go_simp
   exact hK _ _ ⟨rfl,hM⟩
  ·cases ho9
   have r22:=hD.od hd9 2 22 _ rfl (by simp)
   refine wpOp_step rfl fun K hK=>?_
   go_simp
   exact hK _ _ ⟨rfl,hM⟩
 ·intro l9 W9 hl9 hM
  clear hS ye yf yg yh yi
  have hS:=hM
  clear hM
  simp only [Puts.lay,List.setIfInBounds_toArray,List.set_cons_zero,List.set_cons_succ]
  obtain ⟨⟨yj,yk,yl,-⟩,⟨ym,yn,-⟩,-⟩:=hS.cells
  go_wp2
  go_ret2
  exact ⟨rfl,hS.fr⟩
theorem tsize_pos (n:Nat) (hn:n < 9223372036854775808) (w:World)  :
  Calls Tryz.prog 50 #[.int .i64 (n:Int)] w fun e w'=>e = .returned (.int .u64 (n:Int))∧Below w.heap.size w w':=by
 have e1:IntKind.u64.wrap (n:Int) = (n:Int):=by rw [IntKind.wrap_u64]; omega
 have h0:¬ (n:Int) < 0:=by omega
 clear hn
 go_enter Tryz.func50,Tryz.ntmps50
 go_wp2
 go_ret
 exact ⟨rfl,(Fs.begin w).fr⟩
theorem tsize_neg (n:Nat) (h0:0 < n) (hn:n≤9223372036854775808) (w:World)  :
  Calls Tryz.prog 50 #[.int .i64 (-(n:Int))] w fun e w'=>e = .returned (.int .u64 (n:Int))∧Below w.heap.size w w':=by
 have e1:IntKind.u64.wrap (-(n:Int)) = 18446744073709551616 - (n:Int):=by rw [IntKind.wrap_u64]; omega
 have e2:IntKind.u64.wrap (-(18446744073709551616 - (n:Int))) = (n:Int):=by rw [IntKind.wrap_u64]; omega
 have h1:-(n:Int) < 0:=by omega
 clear hn h0
 go_enter Tryz.func50,Tryz.ntmps50
 go_wp2
 go_ret
 exact ⟨rfl,(Fs.begin w).fr⟩
theorem twidth_8  (w:World)  :
  Calls Tryz.prog 41 #[.int .i64 8] w fun e w'=>e = .returned (.int .i64 0)∧Below w.heap.size w w':=by
 go_enter Tryz.func41,Tryz.ntmps41
 go_wp2
 go_ret
 exact ⟨rfl,(Fs.begin w).fr⟩
theorem twidth_64  (w:World)  :
  Calls Tryz.prog 41 #[.int .i64 64] w fun e w'=>e = .returned (.int .i64 0)∧Below w.heap.size w w':=by
 go_enter Tryz.func41,Tryz.ntmps41
 go_wp2
 go_ret
 exact ⟨rfl,(Fs.begin w).fr⟩
theorem tend_8_high  (w:World)  :
  Calls Tryz.prog 42 #[.int .i64 8,.bool false] w fun e w'=>e = .returned (.int .i64 127)∧Below w.heap.size w w':=by
 go_enter Tryz.func42,Tryz.ntmps42
 go_wp2
 go_ret
 exact ⟨rfl,(Fs.begin w).fr⟩
theorem tend_64_low  (w:World)  :
  Calls Tryz.prog 42 #[.int .i64 64,.bool true] w fun e w'=>e = .returned (.int .i64 (-9223372036854775808))∧Below w.heap.size w w':=by
 go_enter Tryz.func42,Tryz.ntmps42
 go_wp2
 go_ret
 exact ⟨rfl,(Fs.begin w).fr⟩
theorem tend_64_high  (w:World)  :
  Calls Tryz.prog 42 #[.int .i64 64,.bool false] w fun e w'=>e = .returned (.int .i64 9223372036854775807)∧Below w.heap.size w w':=by
 go_enter Tryz.func42,Tryz.ntmps42
 go_wp2
 go_ret
 exact ⟨rfl,(Fs.begin w).fr⟩
theorem To_fin (E F E' F' b:Int) (md:Nat) (H1:Tel 12 #[.agg #[.int .i64 E,.int .i64 F]] (.int .i64 0)) (H2:Tel 12 #[.agg #[.int .i64 E',.int .i64 F']] (.int .i64 0)) (H3:Tel 34 #[.agg #[.int .i64 E,.int .i64 F],.int .u64 b] (.int .i64 0)) (hm:md≤4) (neg:Bool) (c:Int) (h5:(c == (5:Int)) = false) (h4:(c == (4:Int)) = false) (s:Bool) (m:Nat) (x gb gf:Int) (HK:Tel 36 #[.agg #[.int .i64 E,.int .i64 F],.int .u64 b] (.tuple #[.int .u8 c,.bool neg])) (HV:Hid (Vals E F b s m x)) (HR:Hid (∀ (W:World) (B:Nat) (A:Option Addr) (N C:Nat),Mine W B A N C m→Calls Tryz.prog 40 #[.agg #[.int .i64 E',.int .i64 F'],.agg #[.bool s,.slice A N C,.int .i64 x],.bool neg,.int .u8 (md:Int)] W fun e w'=>e = .returned (.tuple #[.int .u64 gb,.int .u8 gf,.int .i64 0])∧Below W.heap.size W w')) (w:World) (hT:Tb w) (hN:Nb w) :
  Calls Tryz.prog 8 #[.agg #[.int .i64 E,.int .i64 F],.agg #[.int .i64 E',.int .i64 F'],.int .u64 b,.int .u8 (md:Int)] w fun e w'=>e = .returned (.tuple #[.int .u64 gb,.int .u8 gf,.int .i64 0])∧Below w.heap.size w w':=by
 have HN:=hide hN
 have HM:=hide hm
 clear hN hm
 have HT:=hide hT
 clear hT
 go_enter Tryz.func8,Tryz.ntmps8
 go_wp2_with fail
 refine (H1 _).mono ?_
 rintro e w1 ⟨rfl,hb1⟩
 have hS:=(Fs.three w _ _ _ _ _ _).kept hb1
 obtain ⟨⟨ya,yb,-⟩,⟨yc,yd,-⟩,⟨ye,-⟩,-⟩:=hS.cells
 go_wp2_with fail
 refine (keep_0 _ _ _ ⟨_,_,hS.bx ⟨w.heap.size+2,#[.int .i64 0],75⟩ (by simp),rfl⟩).mono ?_
 rintro e w2 ⟨rfl,hb2⟩
 replace hS:=hS.kept hb2
 clear ya yb yc yd ye
 obtain ⟨⟨yf,yg,-⟩,⟨yh,yi,-⟩,⟨yj,-⟩,-⟩:=hS.cells
 go_wp2_with fail
 refine (H2 _).mono ?_
 rintro e w3 ⟨rfl,hb3⟩
 replace hS:=hS.kept hb3
 clear yf yg yh yi yj
 obtain ⟨⟨yk,yl,-⟩,⟨ym,yn,-⟩,⟨yo,-⟩,-⟩:=hS.cells
 go_wp2_with fail
 refine (keep_0 _ _ _ ⟨_,_,hS.bx ⟨w.heap.size+2,#[.int .i64 0],75⟩ (by simp),rfl⟩).mono ?_
 rintro e w4 ⟨rfl,hb4⟩
 replace hS:=hS.kept hb4
 clear yk yl ym yn yo
 obtain ⟨⟨yp,yq,-⟩,⟨yr,ys,-⟩,⟨yt,-⟩,-⟩:=hS.cells
 go_wp2_with fail
 refine (H3 _).mono ?_
 rintro e w5 ⟨rfl,hb5⟩
 replace hS:=hS.kept hb5
 clear yp yq yr ys yt
 obtain ⟨⟨yu,yv,-⟩,⟨yw,yx,-⟩,⟨yy,-⟩,-⟩:=hS.cells
 go_wp2_with fail
 refine (keep_0 _ _ _ ⟨_,_,hS.bx ⟨w.heap.size+2,#[.int .i64 0],75⟩ (by simp),rfl⟩).mono ?_
 rintro e w6 ⟨rfl,hb6⟩
 replace hS:=hS.kept hb6
 clear yu yv yw yx yy
 obtain ⟨⟨yz,y0,-⟩,⟨y1,y2,-⟩,⟨y3,-⟩,-⟩:=hS.cells
 go_wp2_with fail
 refine (tmode_ok md (unhide HM) _ ((unhide HN).kept hS.fr)).mono ?_
 rintro e w7 ⟨rfl,hb7⟩
 replace hS:=hS.kept hb7
 clear yz y0 y1 y2 y3
 obtain ⟨⟨y4,y5,-⟩,⟨y6,y7,-⟩,⟨y8,-⟩,-⟩:=hS.cells
 go_wp2_with fail
 refine (keep_0 _ _ _ ⟨_,_,hS.bx ⟨w.heap.size+2,#[.int .i64 0],75⟩ (by simp),rfl⟩).mono ?_
 rintro e w8 ⟨rfl,hb8⟩
 replace hS:=hS.kept hb8
 clear y4 y5 y6 y7 y8
 obtain ⟨⟨y9,yba,-⟩,⟨ybb,ybc,-⟩,⟨ybd,-⟩,-⟩:=hS.cells
 go_wp2_with fail
 refine (HK _).mono ?_
 rintro e w9 ⟨rfl,hb9⟩
 replace hS:=hS.kept hb9
 clear y9 yba ybb ybc ybd
 obtain ⟨⟨ybe,ybf,-⟩,⟨ybg,ybh,-⟩,⟨ybi,-⟩,-⟩:=hS.cells
 clear HM
 have hsV:=hS.size
 go_wp2_with fail
 refine (unhide HV _ ((unhide HT).kept hS.fr)).mono ?_
 rintro e w10 ⟨⟨A1,N1,C1,rfl,f1⟩,hb10⟩
 replace hS:=hS.kept hb10
 clear ybe ybf ybg ybh ybi
 obtain ⟨⟨ybj,ybk,-⟩,⟨ybl,ybm,-⟩,⟨ybn,-⟩,-⟩:=hS.cells
 have G1:=hide (f1.mono (base':=w.heap.size) hsV)
 clear f1 hsV
 have hltw10_0:w.heap.size < w10.heap.size:=hS.lt 0 rfl
 have hltw10_1:w.heap.size+1 < w10.heap.size:=hS.lt 1 rfl
 have hltw10_2:w.heap.size+2 < w10.heap.size:=hS.lt 2 rfl
 obtain ⟨WU,hWU⟩:∃ WU,w10.alloc (.cells #[.bool s,.slice A1 N1 C1,.int .i64 x] 42) = WU:=⟨_,rfl⟩
 replace hS:=hS.alloc #[.bool s,.slice A1 N1 C1,.int .i64 x] 42
 rw [hWU] at hS
 replace G1:=hide (hWU▸(unhide G1).alloc (.cells #[.bool s,.slice A1 N1 C1,.int .i64 x] 42))
 clear ybj ybk ybl ybm ybn
 obtain ⟨⟨ybo,ybp,ybq,-⟩,⟨ybr,ybs,-⟩,⟨ybt,ybu,-⟩,⟨ybv,-⟩,-⟩:=hS.cells
 go_wp2_with fail
 refine (unhide HR _ _ _ _ _ (unhide G1)).mono ?_
 rintro e w11 ⟨rfl,hb11⟩
 replace hS:=hS.kept hb11
 clear ybo ybp ybq ybr ybs ybt ybu ybv
 obtain ⟨⟨ybw,ybx,yby,-⟩,⟨ybz,yb0,-⟩,⟨yb1,yb2,-⟩,⟨yb3,-⟩,-⟩:=hS.cells
 replace G1:=hide ((unhide G1).kept hb11)
 go_wp2
 go_ret3
 exact ⟨rfl,hS.fr⟩
theorem worth_row {E F B ex fr M z k:Nat} {xe:Int} (h:Wo E F B ex fr M z xe) (hk:Bl (M / 2 ^ z) k) (md:Nat) (s:Bool) :
  rowR B F md s (M / 2 ^ z) k (xe+(z:Int)) = ex * 2 ^ F+fr∧lastP B F k (xe+(z:Int))≤xe+(z:Int):=by
 obtain ⟨hk0,hk1,hk2⟩:=h.bits hk
 have hodd:=h.odd
 have hlast:lastP B F k (xe+(z:Int)) = xe:=by
  unfold lastP
  rcases h.part with ⟨h0,hM,hf,hx⟩|⟨h0,hM,hx⟩
  ·have:=hk1 h0; omega
  ·have:=hk2 h0; omega
 refine ⟨?_,by rw [hlast]; omega⟩
 unfold rowR cutR
 rw [hlast,if_pos (by omega),show (xe+(z:Int) - xe).toNat = z from by omega,hodd.2]
 rcases h.part with ⟨h0,hM,hf,hx⟩|⟨h0,hM,hx⟩
 ·rw [show (xe - (1 - (B:Int) - (F:Int))).toNat = 0 from by omega,hM,h0]
 ·obtain ⟨e,rfl⟩:∃ e,ex = e+1:=⟨ex - 1,by omega⟩
  rw [show (xe - (1 - (B:Int) - (F:Int))).toNat = e from by omega,hM,Nat.add_mul,Nat.one_mul]
  omega
theorem Fm.finlt {E F S I ex fr:Nat} (h:Fm E F S I) (hx:ex+1 < 2 ^ E) (hf:fr < 2 ^ F):ex * 2 ^ F+fr < I:=by
 rw [h.hI]
 have h1:(ex+1) * 2 ^ F≤(2 ^ E - 1) * 2 ^ F:=Nat.mul_le_mul_right _ (by omega)
 rw [Nat.add_mul,Nat.one_mul] at h1
 omega
theorem worth_round {E F S I B b ex fr M z k:Nat} {s:Bool} {xe:Int} (h:Fm E F S I) (hB:Bt E F b s ex fr) (hW:Wo E F B ex fr M z xe) (hk:Bl (M / 2 ^ z) k) (md:Nat) :
  bitsR S I md s (rowR B F md s (M / 2 ^ z) k (xe+(z:Int))) = b∧flagR B F I md s (M / 2 ^ z) k (xe+(z:Int)) = 0:=by
 obtain ⟨h1,h2⟩:=worth_row hW hk md s
 have hlt:=h.finlt hW.fin hW.frl
 constructor
 ·unfold bitsR
  rw [h1,if_pos hlt,hB.eq,h.hS]
  cases s <;> simp
 ·unfold flagR
  rw [h1,if_neg (by omega),if_pos h2]
theorem wo_of {E F B m k:Nat} {x:Int} (hk:Bl m k) (hm:m % 2 = 1) (h1:k≤F+1) (h2:1 - (B:Int) - (F:Int)≤x) (h3:x+(k:Int) - 1≤(B:Int)) (HB:2 * B+1 = 2 ^ E - 1) :
  ∃ ex fr M z xe,Wo E F B ex fr M z xe∧M / 2 ^ z = m∧xe+(z:Int) = x:=by
 have hlt:=hk.1
 have hk0:0 < k:=by
  rcases Nat.eq_zero_or_pos k with h|h
  ·rw [h] at hlt; simp at hlt; omega
  ·exact h
 have hge:2 ^ (k - 1)≤m:=by
  rcases hk.2 with h|h
  ·exact absurd h (by omega)
  ·exact h
 have dv:∀ z:Nat,m * 2 ^ z / 2 ^ z = m:=fun z=>Nat.mul_div_cancel _ (pow_pos2 z)
 by_cases hn:1 - (B:Int)≤x+(k:Int) - 1
 ·obtain ⟨z,hz⟩:∃ z,z = F+1 - k:=⟨_,rfl⟩
  obtain ⟨ex,hex⟩:∃ ex:Nat,(ex:Int) = x+(k:Int) - 1+(B:Int):=⟨(x+(k:Int) - 1+(B:Int)).toNat,by omega⟩
  have g1:2 ^ F≤m * 2 ^ z:=by
   have:2 ^ (k - 1) * 2 ^ z≤m * 2 ^ z:=Nat.mul_le_mul_right _ hge
   rw [← Nat.pow_add,show k - 1+z = F from by omega] at this
   exact this
  have g2:m * 2 ^ z < 2 ^ F+2 ^ F:=by
   have:m * 2 ^ z < 2 ^ k * 2 ^ z:=Nat.mul_lt_mul_of_pos_right hlt (pow_pos2 z)
   rw [← Nat.pow_add,show k+z = F+1 from by omega,Nat.pow_succ] at this
   omega
  refine ⟨ex,m * 2 ^ z - 2 ^ F,m * 2 ^ z,z,x - (z:Int),⟨odd_tz hm,Or.inr ⟨by omega,by omega,by omega⟩,by omega,by omega⟩,dv z,by omega⟩
 ·obtain ⟨z,hz⟩:∃ z:Nat,(z:Int) = x - (1 - (B:Int) - (F:Int)):=⟨(x - (1 - (B:Int) - (F:Int))).toNat,by omega⟩
  have g2:m * 2 ^ z < 2 ^ F:=by
   have:m * 2 ^ z < 2 ^ k * 2 ^ z:=Nat.mul_lt_mul_of_pos_right hlt (pow_pos2 z)
   rw [← Nat.pow_add] at this
   exact Nat.lt_of_lt_of_le this (pow_bound (by omega))
  have g0:0 < m * 2 ^ z:=Nat.mul_pos (by omega) (pow_pos2 z)
  exact ⟨0,m * 2 ^ z,m * 2 ^ z,z,1 - (B:Int) - (F:Int),⟨odd_tz hm,Or.inl ⟨rfl,rfl,g0,rfl⟩,by omega,g2⟩,dv z,by omega⟩
theorem rdyadic_zero {E F S I md:Nat} (h:Fm E F S I) (hm:md≤4) (ng:Bool) (a:Option Addr) (n cap:Nat) (W:World) (Bs:Nat) (g:Mine W Bs a n cap 0) :
  Calls Tryz.prog 40 #[.agg #[.int .i64 E,.int .i64 F],.agg #[.bool false,.slice a n cap,.int .i64 0],.bool ng,.int .u8 (md:Int)] W fun e w'=>e = .returned (.tuple #[.int .u64 ((if ng then S else 0:Nat):Int),.int .u8 0,.int .i64 0])∧Below W.heap.size W w':=by
 obtain rfl:=g.num.zero.2 rfl
 refine rdyadic_is E F md h.fo hm false a 0 cap 0 0 ng _ 0 W Bs g (hide fun W g=>dcheck_dy false a 0 cap 0 0 W ⟨g,Or.inl ⟨rfl,rfl,rfl⟩⟩) (hide fun W _=>rounded_nought E F _ md ng h.fo a cap W ?_)
 exact ⟨pow_pos2 _,pow_pos2 _,by rw [← h.hS]; cases ng <;> simp⟩
def ToIs (E F E' F' b:Int) (md:Nat) (x y z:Int):Prop:=∀ W:World,Tb W→Nb W→Calls Tryz.prog 8 #[.agg #[.int .i64 E,.int .i64 F],.agg #[.int .i64 E',.int .i64 F'],.int .u64 b,.int .u8 (md:Int)] W fun e w'=>e = .returned (.tuple #[.int .u64 x,.int .u8 y,.int .i64 z])∧Below W.heap.size W w'
theorem check_T {E F S I:Nat} (h:Fm E F S I):Tel 12 #[.agg #[.int .i64 E,.int .i64 F]] (.int .i64 0):=fun W=>check_ok _ _ W h.fo
theorem check_B {E F:Int} (h:NoFo E F):Tel 12 #[.agg #[.int .i64 E,.int .i64 F]] (.int .i64 5):=fun W=>check_bad _ _ W h
theorem kind_T {E F S I b ex fr:Nat} {neg:Bool} (h:Fm E F S I) (hB:Bt E F b neg ex fr):Tel 36 #[.agg #[.int .i64 E,.int .i64 F],.int .u64 (b:Int)] (.tuple #[.int .u8 (cls ex fr (2 ^ E - 1):Int),.bool neg]):=
 fun W=>tkind_is E F b _ ex fr neg (fun W=>Class_ok E F b ex fr neg h.fo hB _ (hide rfl) W) (fun W=>Split_ok E F b ex fr neg h.fo hB W) W
theorem Bt.two {E F S I b ex fr:Nat} {neg:Bool} (h:Fm E F S I) (hB:Bt E F b neg ex fr):b < 2 * S:=by
 have:=hB.lt
 rw [Nat.pow_succ,Nat.mul_comm,← h.hS] at this
 exact this
theorem to_wo {E F S I B E' F' S' I' B' b md ex fr M z k:Nat} {neg:Bool} {xe:Int} (h:Fm E F S I) (h':Fm E' F' S' I') (HB:B = 2 ^ (E - 1) - 1) (HB':B' = 2 ^ (E' - 1) - 1) (hm:md≤4) (hB:Bt E F b neg ex fr) (hW:Wo E F B ex fr M z xe) (hk:Bl (M / 2 ^ z) k) :
  ToIs E F E' F' b md (bitsR S' I' md neg (rowR B' F' md neg (M / 2 ^ z) k (xe+(z:Int))):Int) (flagR B' F' I' md neg (M / 2 ^ z) k (xe+(z:Int)):Int) 0:=fun W hT hN=>by
 have hkd:=kind_T h hB
 have hfin:=hW.fin
 have hrg:=hW.range h.fo (hide HB)
 have hF:=h.fo.f52
 have hzl:=hW.zle
 have hz:¬ (ex = 0∧fr = 0):=fun hc=>by
  rcases hW.part with ⟨_,_,h2,_⟩|⟨h2,_⟩ <;> omega
 have hc:cls ex fr (2 ^ E - 1) = 2∨cls ex fr (2 ^ E - 1) = 3:=by
  unfold cls
  by_cases he:ex = 0
  ·exact Or.inl (by rw [if_neg hz,if_pos he])
  ·exact Or.inr (by rw [if_neg hz,if_neg he,if_pos (by omega)])
 generalize cls ex fr (2 ^ E - 1) = c at hkd hc
 exact To_fin E F E' F' b md (check_T h) (check_T h') (fits_T h (hB.two h)) hm neg c (by simp; omega) (by simp; omega) neg (M / 2 ^ z) (xe+(z:Int)) _ _ hkd (hide (vals_wo h.fo (hide HB) hB hW))
  (hide fun W B A N C g=>rdyadic_any h' HB' hm neg neg A N C _ k _ W B g ⟨hW.odd.1,by omega,by omega⟩ hk) W hT hN
theorem run_tf64from (b:Nat) (w:World):(callFunc 16 #[.int .u64 (b:Int)]).run Tryz.prog w = .ok (.value (.float .f64 b)) w:=by
 rw [run_callFunc_extern (e:=Extern.MathFloatBits.float64frombits) Tryz.func16 (by kernel_rfl) (by kernel_rfl) (by kernel_rfl) (by kernel_rfl)]; rfl
theorem tdouble_any  (w:World)  :
  Calls Tryz.prog 104 #[] w fun e w'=>e = .returned (.agg #[.int .i64 11,.int .i64 52])∧Below w.heap.size w w':=by
 go_enter Tryz.func104,Tryz.ntmps104
 go_wp2
 exact bodyPost_ret (v:=.agg #[.int .i64 11,.int .i64 52]) (by simp [results,Tryz.results104,go_sem]) rfl ⟨rfl,(Fs.one w _ _).fr⟩
theorem isS64_any (x:Nat) (w:World)  :
  Calls Tryz.prog 64 #[.float .f64 x] w fun e w'=>e = .returned (.bool false)∧Below w.heap.size w w':=by
 have o1:FloatKind.f64.format.order 4715268810125344768 4715268810125344768 = some .eq:=by kernel_rfl
 go_enter Tryz.func64,Tryz.ntmps64
 go_wp2
 go_ret
 exact ⟨rfl,(Fs.begin w).fr⟩
theorem Form64_any (x:Nat) (w:World)  :
  Calls Tryz.prog 63 #[.float .f64 x] w fun e w'=>e = .returned (.agg #[.int .i64 11,.int .i64 52])∧Below w.heap.size w w':=by
 go_enter Tryz.func63,Tryz.ntmps63
 go_wp2_with fail
 refine (isS64_any x _).mono ?_
 rintro e w1 ⟨rfl,hb1⟩
 have hS:=(Fs.one w _ _).kept hb1
 obtain ⟨⟨ya,yb,-⟩,-⟩:=hS.cells
 go_wp2_with fail
 refine (tdouble_any _).mono ?_
 rintro e w2 ⟨rfl,hb2⟩
 replace hS:=hS.kept hb2
 clear ya yb
 obtain ⟨⟨yc,yd,-⟩,-⟩:=hS.cells
 have Q_:=hS.frozen (b:=w.heap.size) (cs:=#[.int .i64 0,.int .i64 0]) (t:=24) (by simp)
 have fz0:=Q_ 0
 have fz1:=Q_ 1
 clear Q_
 go_wp2
 exact bodyPost_ret (v:=.agg #[.int .i64 11,.int .i64 52]) (by simp [results,Tryz.results63,go_sem,yc,yd]) rfl ⟨rfl,((hS.fr.setCell (by simp) _).setCell (by simp) _)⟩
theorem From64_ok (E F b:Int) (r:Nat) (fl:Int) (H:ToIs E F 11 52 b 0 (r:Int) fl 0) (w:World) (hT:Tb w) (hN:Nb w) :
  Calls Tryz.prog 18 #[.agg #[.int .i64 E,.int .i64 F],.int .u64 b] w fun e w'=>e = .returned (.tuple #[.float .f64 r,.int .i64 0])∧Below w.heap.size w w':=by
 have HT:=hide hT
 have HN:=hide hN
 clear hT hN
 have x1:=run_tf64from
 go_enter Tryz.func18,Tryz.ntmps18
 go_wp2_with fail
 refine wp_region_any (by kernel_rfl) ?_
 refine wpAny_det [some (11,.agg #[.int .i64 E,.int .i64 F]),some (12,.float .f64 0),some (13,.agg #[.int .i64 11,.int .i64 52]),some (14,.int .u64 b),some (15,.tuple #[.int .u64 (r:Int),.int .u8 fl,.int .i64 0]),some (10,.tuple #[.int .u64 (r:Int),.int .u8 fl,.int .i64 0]),some (16,.int .u64 (r:Int)),some (17,.int .u8 fl),some (18,.int .i64 0),some (7,.int .u64 (r:Int)),some (8,.int .u8 fl),some (9,.int .i64 0)]
  (fun _ W9=>Fs w W9 [⟨w.heap.size,#[.int .i64 E,.int .i64 F],24⟩]) _ _ rfl (by kernel_rfl) rfl rfl ?_ ?_ (Fs.one w _ _).drew
 ·intro l9 t9 W9 i9 hD hi9 hl9 hM
  obtain ⟨o9,ho9,hd9⟩:=(mem_ready.1 hi9).2
  have hin9:i9 < 12:=by
   by_cases h:i9 < 12
   ·exact h
   ·rw [Array.getElem?_eq_none (by rw [hD.len]; simp; omega)] at hl9; cases hl9
  have hcase:i9 = 0∨i9 = 1∨i9 = 2∨i9 = 3∨i9 = 4∨i9 = 5∨i9 = 6∨i9 = 7∨i9 = 8∨i9 = 9∨i9 = 10∨i9 = 11:=by omega
  clear hin9
  rcases hcase with rfl|rfl|rfl|rfl|rfl|rfl|rfl|rfl|rfl|rfl|rfl|rfl
  ·cases ho9
   have r2:=hD.old 2 _ rfl rfl
   have hM0:=hM
   have Q_:=hM0.cellAt (b:=w.heap.size) (cs:=#[.int .i64 E,.int .i64 F]) (t:=24) (by simp)
   have c9_0:=Q_ 0 _ rfl
   have c9_1:=Q_ 1 _ rfl
   clear Q_
   clear hM0
   refine wpOp_step rfl fun K hK=>?_
   go_simp
   exact hK _ _ ⟨rfl,hM⟩
  ·cases ho9
   have r6:=hD.old 6 _ rfl rfl
   refine wpOp_step rfl fun K hK=>?_
   go_simp
   exact hK _ _ ⟨rfl,hM⟩
  ·cases ho9
   have r12:=hD.od hd9 1 12 _ rfl (by simp)
   refine wpOp_step rfl fun K hK=>?_
   go_simp
   go_wp2_with fail
   refine (Form64_any 0 _).mono ?_
   rintro en w9 ⟨rfl,hb9⟩
   exact hK _ _ ⟨rfl,hM.kept hb9⟩
  ·cases ho9
   have r1:=hD.old 1 _ rfl rfl
   refine wpOp_step rfl fun K hK=>?_
   go_simp
   exact hK _ _ ⟨rfl,hM⟩
  ·cases ho9
   have r11:=hD.od hd9 0 11 _ rfl (by simp)
   have r13:=hD.od hd9 2 13 _ rfl (by simp)
   have r14:=hD.od hd9 3 14 _ rfl (by simp)
   refine wpOp_step rfl fun K hK=>?_
   go_simp
   go_wp2_with fail
   refine (H _ ((unhide HT).kept hM.fr) ((unhide HN).kept hM.fr)).mono ?_
   rintro en w9 ⟨rfl,hb9⟩
   exact hK _ _ ⟨rfl,hM.kept hb9⟩
  ·cases ho9
   have r15:=hD.od hd9 4 15 _ rfl (by simp)
   refine wpOp_step rfl fun K hK=>?_
   go_simp
   exact hK _ _ ⟨rfl,hM⟩
  ·cases ho9
   have r10:=hD.od hd9 5 10 _ rfl (by simp)
   refine wpOp_step rfl fun K hK=>?_
   go_simp
   exact hK _ _ ⟨rfl,hM⟩
  ·cases ho9
   have r10:=hD.od hd9 5 10 _ rfl (by simp)
   refine wpOp_step rfl fun K hK=>?_
   go_simp
   exact hK _ _ ⟨rfl,hM⟩
  ·cases ho9
   have r10:=hD.od hd9 5 10 _ rfl (by simp)
   refine wpOp_step rfl fun K hK=>?_
   go_simp
   exact hK _ _ ⟨rfl,hM⟩
  ·cases ho9
   have r16:=hD.od hd9 6 16 _ rfl (by simp)
   refine wpOp_step rfl fun K hK=>?_
   go_simp
   exact hK _ _ ⟨rfl,hM⟩
  ·cases ho9
   have r17:=hD.od hd9 7 17 _ rfl (by simp)
   refine wpOp_step rfl fun K hK=>?_
   go_simp
   exact hK _ _ ⟨rfl,hM⟩
  ·cases ho9
   have r18:=hD.od hd9 8 18 _ rfl (by simp)
   refine wpOp_step rfl fun K hK=>?_
   go_simp
   exact hK _ _ ⟨rfl,hM⟩
 ·intro l9 W9 hl9 hM
  have hS:=hM
  clear hM
  simp only [Puts.lay,List.setIfInBounds_toArray,List.set_cons_zero,List.set_cons_succ]
  obtain ⟨⟨ya,yb,-⟩,-⟩:=hS.cells
  go_wp2_with fail
  refine (isS64_any 0 _).mono ?_
  rintro e w1 ⟨rfl,hb1⟩
  replace hS:=hS.kept hb1
  clear ya yb
  obtain ⟨⟨yc,yd,-⟩,-⟩:=hS.cells
  go_wp2
  go_ret2
  exact ⟨rfl,hS.fr⟩
theorem fit8_127  (w:World)  :
  Calls Tryz.prog 69 #[.int .i64 127] w fun e w'=>e = .returned (.tuple #[.int .i8 127,.bool true])∧Below w.heap.size w w':=by
 go_enter Tryz.func69,Tryz.ntmps69
 go_wp2
 go_ret2
 exact ⟨rfl,(Fs.begin w).fr⟩
theorem fitu8_m1  (w:World)  :
  Calls Tryz.prog 71 #[.int .i64 (-1)] w fun e w'=>e = .returned (.tuple #[.int .u8 0,.bool false])∧Below w.heap.size w w':=by
 go_enter Tryz.func71,Tryz.ntmps71
 go_wp2
 go_ret2
 exact ⟨rfl,(Fs.begin w).fr⟩
theorem Cut8_127  (w:World)  :
  Calls Tryz.prog 30 #[.float .f64 4638700579317193114] w fun e w'=>e = .returned (.tuple #[.int .i8 127,.bool true])∧Below w.heap.size w w':=by
 have o1:FloatKind.f64.format.order 14114281232179134464 4638700579317193114 = some .lt:=by kernel_rfl
 have o2:FloatKind.f64.format.order 4638700579317193114 4890909195324358656 = some .lt:=by kernel_rfl
 have x1:∀ W:World,(convert 49 2 (.float .f64 4638700579317193114)).run Tryz.prog W = .ok (.int .i64 127) W:=fun W=>run_convert_float_int W _ _ .f64 .i64 _ _ (by kernel_rfl) (by kernel_rfl) (by kernel_rfl)
 go_enter Tryz.func30,Tryz.ntmps30
 go_wp2_with fail
 refine (fit8_127 _).mono ?_
 rintro e w1 ⟨rfl,hb1⟩
 have hS:=(Fs.begin w).kept hb1
 go_wp2
 go_ret2
 exact ⟨rfl,hS.fr⟩
theorem Cutu8_m1  (w:World)  :
  Calls Tryz.prog 31 #[.float .f64 13830554455654793216] w fun e w'=>e = .returned (.tuple #[.int .u8 0,.bool false])∧Below w.heap.size w w':=by
 have o1:FloatKind.f64.format.order 14114281232179134464 13830554455654793216 = some .lt:=by kernel_rfl
 have o2:FloatKind.f64.format.order 13830554455654793216 4890909195324358656 = some .lt:=by kernel_rfl
 have x1:∀ W:World,(convert 49 2 (.float .f64 13830554455654793216)).run Tryz.prog W = .ok (.int .i64 (-1)) W:=fun W=>run_convert_float_int W _ _ .f64 .i64 _ _ (by kernel_rfl) (by kernel_rfl) (by kernel_rfl)
 go_enter Tryz.func31,Tryz.ntmps31
 go_wp2_with fail
 refine (fitu8_m1 _).mono ?_
 rintro e w1 ⟨rfl,hb1⟩
 have hS:=(Fs.begin w).kept hb1
 go_wp2
 go_ret2
 exact ⟨rfl,hS.fr⟩
theorem Near32_3  (w:World)  :
  Calls Tryz.prog 32 #[.int .u8 3] w fun e w'=>e = .returned (.float .f32 1077936128)∧Below w.heap.size w w':=by
 go_enter Tryz.func32,Tryz.ntmps32
 go_wp2
 go_ret
 exact ⟨rfl,(Fs.begin w).fr⟩
theorem rno_no (a:Option Addr) (n cap:Nat) (w:World) (hn:0 < n):Calls Tryz.prog 144 #[.agg #[.slice a n cap]] w fun en w'=>en = .returned (.bool false)∧Below w.heap.size w w':=by
 have:=nought_any a n cap w
 rw [decide_eq_false (by omega)] at this
 exact this
theorem one_yes (a:Option Addr) (n cap m:Nat) (w:World) (h:Num w a n m) (hm:m = 1):Calls Tryz.prog 146 #[.agg #[.slice a n cap]] w fun en w'=>en = .returned (.bool true)∧Below w.heap.size w w':=by
 have:=isOne_any a n cap m w h
 rw [decide_eq_true hm] at this
 exact this
theorem rk_ok_f (a:Option Addr) (n cap m:Nat) (a':Option Addr) (n' cap' m':Nat) (w:World) (hn':0 < n')  (h:Num w a n m) (h':Num w a' n' m') (hg:Nat.gcd m m' = 1) :
  Calls Tryz.prog 126 #[.agg #[.bool false,.slice a n cap,.slice a' n' cap']] w fun e w'=>e = .returned (.int .i64 0)∧Below w.heap.size w w':=by
 have H:=hide h
 have H':=hide h'
 have HG:=hide hg
 clear h h' hg
 go_enter Tryz.func126,Tryz.ntmps126
 go_wp2_with fail
 refine (rno_no a' n' cap' _ hn').mono ?_
 rintro e w1 ⟨rfl,hb1⟩
 have hS:=(Fs.one w _ _).kept hb1
 obtain ⟨⟨ya,yb,yc,-⟩,-⟩:=hS.cells
 go_wp2_with fail
 refine (gcd_any a a' n n' cap cap' m m' _ ((unhide H).kept hS.fr) ((unhide H').kept hS.fr)).mono ?_
 rintro e w2 ⟨⟨A1,N1,C1,rfl,f1⟩,hb2⟩
 replace hS:=hS.kept hb2
 clear ya yb yc
 obtain ⟨⟨yd,ye,yf,-⟩,-⟩:=hS.cells
 have G1:=hide f1.num
 clear f1
 have hltw2_0:w.heap.size < w2.heap.size:=hS.lt 0 rfl
 replace hS:=hS.alloc #[.slice A1 N1 C1] 40
 replace G1:=hide ((unhide G1).alloc (.cells #[.slice A1 N1 C1] 40))
 go_wp2_with fail
 refine (one_yes A1 N1 C1 _ _ (unhide G1) (unhide HG)).mono ?_
 rintro e w3 ⟨rfl,hb3⟩
 replace hS:=hS.kept hb3
 clear yd ye yf
 obtain ⟨⟨yg,-⟩,⟨yh,yi,yj,-⟩,-⟩:=hS.cells
 go_wp2
 go_ret
 exact ⟨rfl,hS.fr⟩
theorem rk_ok_t (a:Option Addr) (n cap m:Nat) (a':Option Addr) (n' cap' m':Nat) (w:World) (hn':0 < n')  (hn:0 < n) (h:Num w a n m) (h':Num w a' n' m') (hg:Nat.gcd m m' = 1) :
  Calls Tryz.prog 126 #[.agg #[.bool true,.slice a n cap,.slice a' n' cap']] w fun e w'=>e = .returned (.int .i64 0)∧Below w.heap.size w w':=by
 have H:=hide h
 have H':=hide h'
 have HG:=hide hg
 clear h h' hg
 go_enter Tryz.func126,Tryz.ntmps126
 go_wp2_with fail
 refine (rno_no a' n' cap' _ hn').mono ?_
 rintro e w1 ⟨rfl,hb1⟩
 have hS:=(Fs.one w _ _).kept hb1
 obtain ⟨⟨ya,yb,yc,-⟩,-⟩:=hS.cells
 go_wp2_with fail
 refine (rno_no a n cap _ hn).mono ?_
 rintro e w2 ⟨rfl,hb2⟩
 replace hS:=hS.kept hb2
 clear ya yb yc
 obtain ⟨⟨yd,ye,yf,-⟩,-⟩:=hS.cells
 go_wp2_with fail
 refine (gcd_any a a' n n' cap cap' m m' _ ((unhide H).kept hS.fr) ((unhide H').kept hS.fr)).mono ?_
 rintro e w3 ⟨⟨A1,N1,C1,rfl,f1⟩,hb3⟩
 replace hS:=hS.kept hb3
 clear yd ye yf
 obtain ⟨⟨yg,yh,yi,-⟩,-⟩:=hS.cells
 have G1:=hide f1.num
 clear f1
 have hltw3_0:w.heap.size < w3.heap.size:=hS.lt 0 rfl
 replace hS:=hS.alloc #[.slice A1 N1 C1] 40
 replace G1:=hide ((unhide G1).alloc (.cells #[.slice A1 N1 C1] 40))
 go_wp2_with fail
 refine (one_yes A1 N1 C1 _ _ (unhide G1) (unhide HG)).mono ?_
 rintro e w4 ⟨rfl,hb4⟩
 replace hS:=hS.kept hb4
 clear yg yh yi
 obtain ⟨⟨yj,-⟩,⟨yk,yl,ym,-⟩,-⟩:=hS.cells
 go_wp2
 go_ret
 exact ⟨rfl,hS.fr⟩
theorem runLess_0 (p k:Nat) (a:Option Addr) (n cap:Nat) (t:Bool) (w:World) (h:Rn w p k) :
  Calls Tryz.prog 91 #[.pointer (some ⟨p,k,none⟩),.agg #[.slice a n cap],.bool t,.int .i64 0] w fun e w'=>e = .returned (.agg #[.slice a n cap])∧Below w.heap.size w w':=by
 have H:=hide h
 clear h
 go_enter Tryz.func91,Tryz.ntmps91
 go_wp2_with fail
 refine (keep_0 p k _ ((unhide H).kept (Fs.two w _ _ _ _).fr)).mono ?_
 rintro e w1 ⟨rfl,hb1⟩
 have hS:=(Fs.two w _ _ _ _).kept hb1
 obtain ⟨⟨ya,-⟩,⟨yb,-⟩,-⟩:=hS.cells
 have fz0:=hS.frozen (b:=w.heap.size+1) (cs:=#[.slice none 0 0]) (t:=40) (by simp) 0
 go_wp2
 exact bodyPost_ret (v:=.agg #[.slice a n cap]) (by simp [results,Tryz.results91,go_sem,yb]) rfl ⟨rfl,(hS.fr.setCell (by simp <;> omega) _)⟩
theorem runInt_0 (p k:Nat) (c:Int) (w:World) (h:Rn w p k) :
  Calls Tryz.prog 89 #[.pointer (some ⟨p,k,none⟩),.int .i64 c,.int .i64 0] w fun e w'=>e = .returned (.int .i64 c)∧Below w.heap.size w w':=by
 have H:=hide h
 clear h
 go_enter Tryz.func89,Tryz.ntmps89
 go_wp2_with fail
 refine (keep_0 p k _ (unhide H)).mono ?_
 rintro e w1 ⟨rfl,hb1⟩
 have hS:=(Fs.begin w).kept hb1
 go_wp2
 go_ret
 exact ⟨rfl,hS.fr⟩
theorem runNats_0 (p k:Nat) (a:Option Addr) (n cap:Nat) (a':Option Addr) (n' cap':Nat) (w:World) (h:Rn w p k) :
  Calls Tryz.prog 86 #[.pointer (some ⟨p,k,none⟩),.agg #[.slice a n cap],.agg #[.slice a' n' cap'],.int .i64 0] w fun e w'=>e = .returned (.tuple #[.agg #[.slice a n cap],.agg #[.slice a' n' cap']])∧Below w.heap.size w w':=by
 have H:=hide h
 clear h
 go_enter Tryz.func86,Tryz.ntmps86
 go_wp2_with fail
 have hS:=(Fs.three w #[.slice a n cap] 40 #[.slice a' n' cap'] 40 #[.slice none 0 0] 40).alloc #[.slice none 0 0] 40
 simp only [World.size_alloc] at hS
 refine (keep_0 p k _ ((unhide H).kept hS.fr)).mono ?_
 rintro e w1 ⟨rfl,hb1⟩
 replace hS:=hS.kept hb1
 obtain ⟨⟨ya,-⟩,⟨yb,-⟩,⟨yc,-⟩,⟨yd,-⟩,-⟩:=hS.cells
 have fy0:=hS.frozen (b:=w.heap.size+2) (cs:=#[.slice none 0 0]) (t:=40) (by simp) 0
 have fz0:=hS.frozen (b:=w.heap.size+3) (cs:=#[.slice none 0 0]) (t:=40) (by simp) 0
 go_wp2
 go_region
 go_wp2
 exact bodyPost_ret (v:=.tuple #[.agg #[.slice a n cap],.agg #[.slice a' n' cap']]) (by simp [results,Tryz.results86,go_sem,ya,yd]) rfl ⟨rfl,((hS.fr.setCell (show w.heap.size≤w.heap.size+1+1 by omega) _).setCell (show w.heap.size≤w.heap.size+1+1+1 by omega) _).drew⟩
theorem tcheckF_ok (s:Bool) (a:Option Addr) (n cap:Nat) (a':Option Addr) (n' cap':Nat) (md:Nat) (hm:md≤4) (w:World) (HC:Hid (∀ W:World,Below w.heap.size w W→Calls Tryz.prog 126 #[.agg #[.bool s,.slice a n cap,.slice a' n' cap']] W fun e w'=>e = .returned (.int .i64 0)∧Below W.heap.size W w')) :
  Calls Tryz.prog 85 #[.agg #[.bool s,.slice a n cap,.slice a' n' cap'],.int .u8 (md:Int)] w fun e w'=>e = .returned (.int .i64 0)∧Below w.heap.size w w':=by
 go_enter Tryz.func85,Tryz.ntmps85
 go_wp2_with fail
 refine (unhide HC _ (Fs.one w _ _).fr).mono ?_
 rintro e w1 ⟨rfl,hb1⟩
 have hS:=(Fs.one w _ _).kept hb1
 obtain ⟨⟨ya,yb,yc,-⟩,-⟩:=hS.cells
 go_wp2_with fail
 refine (mode_ok md hm _).mono ?_
 rintro e w2 ⟨rfl,hb2⟩
 replace hS:=hS.kept hb2
 clear ya yb yc
 obtain ⟨⟨yd,ye,yf,-⟩,-⟩:=hS.cells
 clear hm
 go_wp2
 go_ret
 exact ⟨rfl,hS.fr⟩
theorem within_pt (wd last:Int) (sz:Nat) (a:Option Addr) (n cap u:Nat) (HE:Tel 42 #[.int .i64 wd,.bool false] (.int .i64 last)) (HZ:Tel 50 #[.int .i64 last] (.int .u64 (sz:Int))) (hle:u≤sz) (hu:u < 9223372036854775808) (w:World) (h:Num w a n u) (hn:n≤2) :
  Calls Tryz.prog 47 #[.int .i64 wd,.bool false,.agg #[.slice a n cap],.bool true] w fun e w'=>e = .returned (.tuple #[.int .i64 ((u:Int)),.int .u8 0,.int .i64 0])∧Below w.heap.size w w':=by
 have H:=hide h
 have HN:=hide hn
 have e1:IntKind.i64.wrap (u:Int) = (u:Int):=by rw [IntKind.wrap_i64]; omega
 have hgt:¬ (sz:Int) < (u:Int):=by omega
 clear h hn hle hu
 go_enter Tryz.func47,Tryz.ntmps47
 go_wp2_with fail
 refine (HE _).mono ?_
 rintro e w1 ⟨rfl,hb1⟩
 have hS:=(Fs.one w _ _).kept hb1
 obtain ⟨⟨ya,-⟩,-⟩:=hS.cells
 go_wp2_with fail
 refine (low_small a n cap u _ ((unhide H).kept hS.fr) (unhide HN)).mono ?_
 rintro e w2 ⟨rfl,hb2⟩
 replace hS:=hS.kept hb2
 clear ya
 obtain ⟨⟨yb,-⟩,-⟩:=hS.cells
 go_wp2_with fail
 refine (HZ _).mono ?_
 rintro e w3 ⟨rfl,hb3⟩
 replace hS:=hS.kept hb3
 clear yb
 obtain ⟨⟨yc,-⟩,-⟩:=hS.cells
 go_wp2
 go_ret3
 exact ⟨rfl,hS.fr⟩
theorem within_pf (wd last:Int) (sz:Nat) (a:Option Addr) (n cap u:Nat) (HE:Tel 42 #[.int .i64 wd,.bool false] (.int .i64 last)) (HZ:Tel 50 #[.int .i64 last] (.int .u64 (sz:Int))) (hle:u≤sz) (hu:u < 9223372036854775808) (w:World) (h:Num w a n u) (hn:n≤2) :
  Calls Tryz.prog 47 #[.int .i64 wd,.bool false,.agg #[.slice a n cap],.bool false] w fun e w'=>e = .returned (.tuple #[.int .i64 ((u:Int)),.int .u8 1,.int .i64 0])∧Below w.heap.size w w':=by
 have H:=hide h
 have HN:=hide hn
 have e1:IntKind.i64.wrap (u:Int) = (u:Int):=by rw [IntKind.wrap_i64]; omega
 have hgt:¬ (sz:Int) < (u:Int):=by omega
 clear h hn hle hu
 go_enter Tryz.func47,Tryz.ntmps47
 go_wp2_with fail
 refine (HE _).mono ?_
 rintro e w1 ⟨rfl,hb1⟩
 have hS:=(Fs.one w _ _).kept hb1
 obtain ⟨⟨ya,-⟩,-⟩:=hS.cells
 go_wp2_with fail
 refine (low_small a n cap u _ ((unhide H).kept hS.fr) (unhide HN)).mono ?_
 rintro e w2 ⟨rfl,hb2⟩
 replace hS:=hS.kept hb2
 clear ya
 obtain ⟨⟨yb,-⟩,-⟩:=hS.cells
 go_wp2_with fail
 refine (HZ _).mono ?_
 rintro e w3 ⟨rfl,hb3⟩
 replace hS:=hS.kept hb3
 clear yb
 obtain ⟨⟨yc,-⟩,-⟩:=hS.cells
 go_wp2
 go_ret3
 exact ⟨rfl,hS.fr⟩
theorem within_nt (wd last:Int) (sz:Nat) (a:Option Addr) (n cap u:Nat) (HE:Tel 42 #[.int .i64 wd,.bool true] (.int .i64 last)) (HZ:Tel 50 #[.int .i64 last] (.int .u64 (sz:Int))) (hle:u≤sz) (hu:u≤9223372036854775808) (w:World) (h:Num w a n u) (hn:n≤2) :
  Calls Tryz.prog 47 #[.int .i64 wd,.bool true,.agg #[.slice a n cap],.bool true] w fun e w'=>e = .returned (.tuple #[.int .i64 (-(u:Int)),.int .u8 0,.int .i64 0])∧Below w.heap.size w w':=by
 have H:=hide h
 have HN:=hide hn
 obtain ⟨y,hy⟩:∃ y,IntKind.i64.wrap (u:Int) = y:=⟨_,rfl⟩
 have e2:IntKind.i64.wrap (-y) = -(u:Int):=by rw [← hy,IntKind.wrap_i64,IntKind.wrap_i64]; omega
 have hgt:¬ (sz:Int) < (u:Int):=by omega
 clear h hn hle hu
 go_enter Tryz.func47,Tryz.ntmps47
 go_wp2_with fail
 refine (HE _).mono ?_
 rintro e w1 ⟨rfl,hb1⟩
 have hS:=(Fs.one w _ _).kept hb1
 obtain ⟨⟨ya,-⟩,-⟩:=hS.cells
 go_wp2_with fail
 refine (low_small a n cap u _ ((unhide H).kept hS.fr) (unhide HN)).mono ?_
 rintro e w2 ⟨rfl,hb2⟩
 replace hS:=hS.kept hb2
 clear ya
 obtain ⟨⟨yb,-⟩,-⟩:=hS.cells
 go_wp2_with fail
 refine (HZ _).mono ?_
 rintro e w3 ⟨rfl,hb3⟩
 replace hS:=hS.kept hb3
 clear yb
 obtain ⟨⟨yc,-⟩,-⟩:=hS.cells
 go_wp2
 go_ret3
 exact ⟨rfl,hS.fr⟩
theorem Int_fin (E F b wd:Int) (md:Nat) (H3:Tel 34 #[.agg #[.int .i64 E,.int .i64 F],.int .u64 b] (.int .i64 0)) (H2:Tel 41 #[.int .i64 wd] (.int .i64 0)) (hm:md≤4) (c:Int) (h5:(c == (5:Int)) = false) (h4:(c == (4:Int)) = false) (neg s sg same:Bool) (m p d u:Nat) (x v fl:Int) (HK:Tel 36 #[.agg #[.int .i64 E,.int .i64 F],.int .u64 b] (.tuple #[.int .u8 c,.bool neg])) (HV:Hid (Vals E F b s m x)) (HX:Hid (∀ (W:World) (A:Option Addr) (N C:Nat),Num W A N m→Calls Tryz.prog 44 #[.agg #[.bool s,.slice A N C,.int .i64 x]] W fun e w'=>(∃ A N C A' N' C',e = .returned (.tuple #[.agg #[.bool s,.slice A N C,.slice A' N' C'],.int .i64 0])∧Mine w' W.heap.size A N C p∧Mine w' W.heap.size A' N' C' d)∧Below W.heap.size W w')) (HY:Hid (∀ (W:World) (A A':Option Addr) (N C N' C':Nat),Num W A N p→Num W A' N' d→Calls Tryz.prog 46 #[.agg #[.bool s,.slice A N C,.slice A' N' C'],.int .u8 (md:Int)] W fun e w'=>(∃ A N C,e = .returned (.tuple #[.bool sg,.agg #[.slice A N C],.bool same,.int .i64 0])∧Mine w' W.heap.size A N C u)∧Below W.heap.size W w')) (HI:Hid (∀ (W:World) (A:Option Addr) (N C:Nat),Num W A N u→Calls Tryz.prog 47 #[.int .i64 wd,.bool neg,.agg #[.slice A N C],.bool same] W fun e w'=>e = .returned (.tuple #[.int .i64 v,.int .u8 fl,.int .i64 0])∧Below W.heap.size W w')) (w:World) (hT:Tb w) (hN:Nb w) :
  Calls Tryz.prog 9 #[.agg #[.int .i64 E,.int .i64 F],.int .u64 b,.int .i64 wd,.int .u8 (md:Int)] w fun e w'=>e = .returned (.tuple #[.int .i64 v,.int .u8 fl,.int .i64 0])∧Below w.heap.size w w':=by
 have HN:=hide hN
 have HM:=hide hm
 have HT:=hide hT
 clear hN hm hT
 go_enter Tryz.func9,Tryz.ntmps9
 go_wp2_with fail
 refine (H3 _).mono ?_
 rintro e w1 ⟨rfl,hb1⟩
 have hS:=(Fs.two w _ _ _ _).kept hb1
 obtain ⟨⟨ya,yb,-⟩,⟨yc,-⟩,-⟩:=hS.cells
 go_wp2_with fail
 refine (keep_0 _ _ _ ⟨_,_,hS.bx ⟨w.heap.size+1,#[.int .i64 0],75⟩ (by simp),rfl⟩).mono ?_
 rintro e w2 ⟨rfl,hb2⟩
 replace hS:=hS.kept hb2
 clear ya yb yc
 obtain ⟨⟨yd,ye,-⟩,⟨yf,-⟩,-⟩:=hS.cells
 go_wp2_with fail
 refine (H2 _).mono ?_
 rintro e w3 ⟨rfl,hb3⟩
 replace hS:=hS.kept hb3
 clear yd ye yf
 obtain ⟨⟨yg,yh,-⟩,⟨yi,-⟩,-⟩:=hS.cells
 go_wp2_with fail
 refine (keep_0 _ _ _ ⟨_,_,hS.bx ⟨w.heap.size+1,#[.int .i64 0],75⟩ (by simp),rfl⟩).mono ?_
 rintro e w4 ⟨rfl,hb4⟩
 replace hS:=hS.kept hb4
 clear yg yh yi
 obtain ⟨⟨yj,yk,-⟩,⟨yl,-⟩,-⟩:=hS.cells
 go_wp2_with fail
 refine (tmode_ok md (unhide HM) _ ((unhide HN).kept hS.fr)).mono ?_
 rintro e w5 ⟨rfl,hb5⟩
 replace hS:=hS.kept hb5
 clear yj yk yl
 obtain ⟨⟨ym,yn,-⟩,⟨yo,-⟩,-⟩:=hS.cells
 go_wp2_with fail
 refine (keep_0 _ _ _ ⟨_,_,hS.bx ⟨w.heap.size+1,#[.int .i64 0],75⟩ (by simp),rfl⟩).mono ?_
 rintro e w6 ⟨rfl,hb6⟩
 replace hS:=hS.kept hb6
 clear ym yn yo
 obtain ⟨⟨yp,yq,-⟩,⟨yr,-⟩,-⟩:=hS.cells
 go_wp2_with fail
 refine (HK _).mono ?_
 rintro e w7 ⟨rfl,hb7⟩
 replace hS:=hS.kept hb7
 clear yp yq yr
 obtain ⟨⟨ys,yt,-⟩,⟨yu,-⟩,-⟩:=hS.cells
 clear HM
 have hsV:=hS.size
 go_wp2_with fail
 refine (unhide HV _ ((unhide HT).kept hS.fr)).mono ?_
 rintro e w8 ⟨⟨A1,N1,C1,rfl,f1⟩,hb8⟩
 replace hS:=hS.kept hb8
 clear ys yt yu
 obtain ⟨⟨yv,yw,-⟩,⟨yx,-⟩,-⟩:=hS.cells
 have G1:=hide (f1.mono (base':=w.heap.size) hsV)
 clear f1 hsV
 go_wp2_with fail
 refine (runDyadic_0 _ _ _ _ _ _ _ _ ⟨_,_,hS.bx ⟨w.heap.size+1,#[.int .i64 0],75⟩ (by simp),rfl⟩).mono ?_
 rintro e w9 ⟨rfl,hb9⟩
 replace hS:=hS.kept hb9
 clear yv yw yx
 obtain ⟨⟨yy,yz,-⟩,⟨y0,-⟩,-⟩:=hS.cells
 replace G1:=hide ((unhide G1).kept hb9)
 have hsV:=hS.size
 go_wp2_with fail
 refine (unhide HX _ _ _ _ (unhide G1).num).mono ?_
 rintro e w10 ⟨⟨A2,N2,C2,A3,N3,C3,rfl,f2,f3⟩,hb10⟩
 replace hS:=hS.kept hb10
 clear yy yz y0
 obtain ⟨⟨y1,y2,-⟩,⟨y3,-⟩,-⟩:=hS.cells
 replace G1:=hide ((unhide G1).kept hb10)
 have G2:=hide (f2.mono (base':=w.heap.size) hsV)
 have G3:=hide (f3.mono (base':=w.heap.size) hsV)
 clear f2 f3 hsV G1
 go_wp2_with fail
 refine (runRatio_0 _ _ _ _ _ _ _ _ _ _ ⟨_,_,hS.bx ⟨w.heap.size+1,#[.int .i64 0],75⟩ (by simp),rfl⟩).mono ?_
 rintro e w11 ⟨rfl,hb11⟩
 replace hS:=hS.kept hb11
 clear y1 y2 y3
 obtain ⟨⟨y4,y5,-⟩,⟨y6,-⟩,-⟩:=hS.cells
 replace G2:=hide ((unhide G2).kept hb11)
 replace G3:=hide ((unhide G3).kept hb11)
 have hltw11_0:w.heap.size < w11.heap.size:=hS.lt 0 rfl
 have hltw11_1:w.heap.size+1 < w11.heap.size:=hS.lt 1 rfl
 obtain ⟨WU,hWU⟩:∃ WU,w11.alloc (.cells #[.bool s,.slice A2 N2 C2,.slice A3 N3 C3] 88) = WU:=⟨_,rfl⟩
 replace hS:=hS.alloc #[.bool s,.slice A2 N2 C2,.slice A3 N3 C3] 88
 rw [hWU] at hS
 replace G2:=hide (hWU▸(unhide G2).alloc (.cells #[.bool s,.slice A2 N2 C2,.slice A3 N3 C3] 88))
 replace G3:=hide (hWU▸(unhide G3).alloc (.cells #[.bool s,.slice A2 N2 C2,.slice A3 N3 C3] 88))
 clear y4 y5 y6
 obtain ⟨⟨y7,y8,y9,-⟩,⟨yba,ybb,-⟩,⟨ybc,-⟩,-⟩:=hS.cells
 have hsV:=hS.size
 go_wp2_with fail
 refine (unhide HY _ _ _ _ _ _ _ (unhide G2).num (unhide G3).num).mono ?_
 rintro e w12 ⟨⟨A4,N4,C4,rfl,f4⟩,hb12⟩
 replace hS:=hS.kept hb12
 clear y7 y8 y9 yba ybb ybc
 obtain ⟨⟨ybd,ybe,ybf,-⟩,⟨ybg,ybh,-⟩,⟨ybi,-⟩,-⟩:=hS.cells
 replace G2:=hide ((unhide G2).kept hb12)
 replace G3:=hide ((unhide G3).kept hb12)
 have G4:=hide (f4.mono (base':=w.heap.size) hsV)
 clear f4 hsV G2 G3
 have hltw12_0:w11.heap.size < w12.heap.size:=hS.lt 0 rfl
 have hltw12_1:w.heap.size < w12.heap.size:=hS.lt 1 rfl
 have hltw12_2:w.heap.size+1 < w12.heap.size:=hS.lt 2 rfl
 obtain ⟨WX,hWX⟩:∃ WX,w12.alloc (.cells #[.slice A4 N4 C4] 40) = WX:=⟨_,rfl⟩
 replace hS:=hS.alloc #[.slice A4 N4 C4] 40
 rw [hWX] at hS
 replace G4:=hide (hWX▸(unhide G4).alloc (.cells #[.slice A4 N4 C4] 40))
 clear ybd ybe ybf ybg ybh ybi
 obtain ⟨⟨ybj,-⟩,⟨ybk,ybl,ybm,-⟩,⟨ybn,ybo,-⟩,⟨ybp,-⟩,-⟩:=hS.cells
 go_wp2_with fail
 refine (keep_0 _ _ _ ⟨_,_,hS.bx ⟨w.heap.size+1,#[.int .i64 0],75⟩ (by simp),rfl⟩).mono ?_
 rintro e w13 ⟨rfl,hb13⟩
 replace hS:=hS.kept hb13
 clear ybj ybk ybl ybm ybn ybo ybp
 obtain ⟨⟨ybq,-⟩,⟨ybr,ybs,ybt,-⟩,⟨ybu,ybv,-⟩,⟨ybw,-⟩,-⟩:=hS.cells
 replace G4:=hide ((unhide G4).kept hb13)
 go_wp2_with fail
 refine (unhide HI _ _ _ _ (unhide G4).num).mono ?_
 rintro e w14 ⟨rfl,hb14⟩
 replace hS:=hS.kept hb14
 clear ybq ybr ybs ybt ybu ybv ybw
 obtain ⟨⟨ybx,-⟩,⟨yby,ybz,yb0,-⟩,⟨yb1,yb2,-⟩,⟨yb3,-⟩,-⟩:=hS.cells
 replace G4:=hide ((unhide G4).kept hb14)
 go_wp2
 go_ret3
 exact ⟨rfl,hS.fr⟩
theorem rdyadic_form (E F:Int) (s:Bool) (a:Option Addr) (n cap:Nat) (x:Int) (ng:Bool) (md:Int) (H:Tel 12 #[.agg #[.int .i64 E,.int .i64 F]] (.int .i64 5)) (w:World)  :
  Calls Tryz.prog 40 #[.agg #[.int .i64 E,.int .i64 F],.agg #[.bool s,.slice a n cap,.int .i64 x],.bool ng,.int .u8 md] w fun e w'=>e = .returned (.tuple #[.int .u64 0,.int .u8 0,.int .i64 5])∧Below w.heap.size w w':=by
 go_enter Tryz.func40,Tryz.ntmps40
 go_wp2_with fail
 refine (H _).mono ?_
 rintro e w1 ⟨rfl,hb1⟩
 have hS:=(Fs.two w _ _ _ _).kept hb1
 obtain ⟨⟨ya,yb,-⟩,⟨yc,yd,ye,-⟩,-⟩:=hS.cells
 go_wp2
 go_ret3
 exact ⟨rfl,hS.fr⟩
theorem FromInt_is (E F n md:Int) (u:Nat) (q s:Bool) (m:Nat) (x gb gf ge:Int) (hu:u < 18446744073709551616) (hq:decide (n < 0) = q) (HZ:Tel 50 #[.int .i64 n] (.int .u64 (u:Int))) (HK:Hid (∀ (W:World) (B:Nat) (A:Option Addr) (N C:Nat),Mine W B A N C u→Tb W→Calls Tryz.prog 48 #[.bool q,.agg #[.slice A N C],.int .i64 0] W fun e w'=>(∃ A N C,e = .returned (.tuple #[.agg #[.bool s,.slice A N C,.int .i64 x],.int .i64 0])∧Mine w' W.heap.size A N C m)∧Below W.heap.size W w')) (HR:Hid (∀ (W:World) (B:Nat) (A:Option Addr) (N C:Nat),Mine W B A N C m→Calls Tryz.prog 40 #[.agg #[.int .i64 E,.int .i64 F],.agg #[.bool s,.slice A N C,.int .i64 x],.bool false,.int .u8 md] W fun e w'=>e = .returned (.tuple #[.int .u64 gb,.int .u8 gf,.int .i64 ge])∧Below W.heap.size W w')) (w:World) (hT:Tb w) :
  Calls Tryz.prog 10 #[.agg #[.int .i64 E,.int .i64 F],.int .i64 n,.int .u8 md] w fun e w'=>e = .returned (.tuple #[.int .u64 gb,.int .u8 gf,.int .i64 ge])∧Below w.heap.size w w':=by
 have HT:=hide hT
 have HU:=hide hu
 clear hT hu
 go_enter Tryz.func10,Tryz.ntmps10
 go_wp2_with fail
 refine (HZ _).mono ?_
 rintro e w1 ⟨rfl,hb1⟩
 have hS:=(Fs.one w _ _).kept hb1
 obtain ⟨⟨ya,yb,-⟩,-⟩:=hS.cells
 have hsV:=hS.size
 go_wp2_with fail
 refine (of_any u _ (unhide HU)).mono ?_
 rintro e w2 ⟨⟨A1,N1,C1,rfl,f1⟩,hb2⟩
 replace hS:=hS.kept hb2
 clear ya yb
 obtain ⟨⟨yc,yd,-⟩,-⟩:=hS.cells
 have G1:=hide (f1.mono (base':=w.heap.size) hsV)
 clear f1 hsV
 have hsV:=hS.size
 go_wp2_with fail
 refine (unhide HK _ _ _ _ _ (unhide G1) ((unhide HT).kept hS.fr)).mono ?_
 rintro e w3 ⟨⟨A2,N2,C2,rfl,f2⟩,hb3⟩
 replace hS:=hS.kept hb3
 clear yc yd
 obtain ⟨⟨ye,yf,-⟩,-⟩:=hS.cells
 replace G1:=hide ((unhide G1).kept hb3)
 have G2:=hide (f2.mono (base':=w.heap.size) hsV)
 clear f2 hsV G1
 have hltw3_0:w.heap.size < w3.heap.size:=hS.lt 0 rfl
 obtain ⟨WU,hWU⟩:∃ WU,w3.alloc (.cells #[.bool s,.slice A2 N2 C2,.int .i64 x] 42) = WU:=⟨_,rfl⟩
 replace hS:=hS.alloc #[.bool s,.slice A2 N2 C2,.int .i64 x] 42
 rw [hWU] at hS
 replace G2:=hide (hWU▸(unhide G2).alloc (.cells #[.bool s,.slice A2 N2 C2,.int .i64 x] 42))
 clear ye yf
 obtain ⟨⟨yg,yh,yi,-⟩,⟨yj,yk,-⟩,-⟩:=hS.cells
 go_wp2_with fail
 refine (unhide HR _ _ _ _ _ (unhide G2)).mono ?_
 rintro e w4 ⟨rfl,hb4⟩
 replace hS:=hS.kept hb4
 clear yg yh yi yj yk
 obtain ⟨⟨yl,ym,yn,-⟩,⟨yo,yp,-⟩,-⟩:=hS.cells
 replace G2:=hide ((unhide G2).kept hb4)
 go_wp2
 go_ret3
 exact ⟨rfl,hS.fr⟩
theorem log2_bl {m k:Nat} (hk:Bl m k) (h0:0 < m):m.log2+1 = k:=by
 have h1:m < 2 ^ (m.log2+1):=Nat.lt_log2_self
 have h2:2 ^ m.log2≤m:=Nat.log2_self_le (by omega)
 have:=hk.le_of h1
 have:=hk.gt_of h2
 omega
theorem bl_shift {m k:Nat} (j:Nat) (hk:Bl m k) (h0:0 < m):Bl (m * 2 ^ j) (k+j):=by
 have hk0:0 < k:=by
  have:=hk.1
  rcases Nat.eq_zero_or_pos k with h|h
  ·rw [h] at this; simp at this; omega
  ·exact h
 refine ⟨?_,Or.inr ?_⟩
 ·rw [Nat.pow_add]; exact Nat.mul_lt_mul_of_pos_right hk.1 (pow_pos2 j)
 ·rcases hk.2 with h|h
  ·omega
  ·rw [show k+j - 1 = k - 1+j from by omega,Nat.pow_add]; exact Nat.mul_le_mul_right _ h
theorem cut_even_exact (s:Bool) (n d:Nat) (hd:d≤(n * 2 ^ d).log2+2):Toward.even.cut s (n * 2 ^ d) d = n:=by
 have hp:=pow_pos2 d
 have h1:n * 2 ^ d % 2 ^ d = 0:=Nat.mul_mod_left _ _
 have h2:n * 2 ^ d / 2 ^ d = n:=Nat.mul_div_cancel _ hp
 simp only [Toward.cut,Nat.min_eq_left hd,Nat.shiftLeft_eq,Nat.one_mul,h1,h2]
 simp
theorem cut_zero_div (s:Bool) (n d:Nat):Toward.zero.cut s n d = n / 2 ^ d:=by
 simp only [Toward.cut,Nat.shiftLeft_eq,Nat.one_mul]
 simp
 by_cases h:d≤n.log2+2
 ·rw [Nat.min_eq_left h]
 ·rw [Nat.min_eq_right (by omega)]
  have h1:n < 2 ^ (n.log2+1):=Nat.lt_log2_self
  have h2:n < 2 ^ (n.log2+2):=Nat.lt_of_lt_of_le h1 (pow_bound (by omega))
  have h3:n < 2 ^ d:=Nat.lt_of_lt_of_le h2 (pow_bound (by omega))
  rw [Nat.div_eq_of_lt h2,Nat.div_eq_of_lt h3]
theorem near_fields (f:Format) (B:Nat) (s:Bool) (o j k:Nat) (x:Int) (hB:B+1 = 2 ^ (f.exponentBits - 1)) (hE:2≤f.exponentBits) (h0:0 < o) (hk:Bl o k) (hkF:k≤f.fractionBits+1) (hlo:1 - (B:Int) - (f.fractionBits:Int)≤x+(j:Int)) (hhi:x+(j:Int)+(k:Int) - 1≤(B:Int)) :
  ∃ z ex fr:Nat,f.nearest s (o * 2 ^ j) x = s.toNat * 2 ^ (f.fractionBits+f.exponentBits)+(ex * 2 ^ f.fractionBits+fr)∧fr < 2 ^ f.fractionBits∧ex+1 < 2 ^ f.exponentBits ∧
   ((ex = 0∧o * 2 ^ z = fr∧x+(j:Int) - (z:Int) = 1 - (B:Int) - (f.fractionBits:Int))∨(0 < ex∧o * 2 ^ z = fr+2 ^ f.fractionBits∧x+(j:Int) - (z:Int) = 1 - (B:Int) - (f.fractionBits:Int)+((ex:Int) - 1))):=by
 obtain ⟨F,hF⟩:∃ F,F = f.fractionBits:=⟨_,rfl⟩
 obtain ⟨E,hEE⟩:∃ E,E = f.exponentBits:=⟨_,rfl⟩
 have hleast:f.leastPlace = 1 - (B:Int) - (F:Int):=by
  unfold Format.leastPlace
  rw [← hF,← hEE]
  have:((2:Int) ^ (E - 1)) = ((2 ^ (E - 1):Nat):Int):=by simp
  rw [this,hEE,← hB]; omega
 have hE2:2 * (B+1) = 2 ^ E:=by
  rw [hB,← hEE]
  obtain ⟨e,he⟩:∃ e,E = e+1:=⟨E - 1,by omega⟩
  rw [he,Nat.pow_succ]; simp; omega
 have hsw:f.signWeight = 2 ^ (F+E):=by rw [Format.signWeight,hF,hEE,Nat.add_comm]
 have hlog:=log2_bl (bl_shift j hk h0) (Nat.mul_pos h0 (pow_pos2 j))
 have hne:¬ o * 2 ^ j = 0:=by have:=Nat.mul_pos h0 (pow_pos2 j); omega
 have hk0:0 < k:=by
  have:=hk.1
  rcases Nat.eq_zero_or_pos k with h|h
  ·rw [h] at this; simp at this; omega
  ·exact h
 have hge:2 ^ (k - 1)≤o:=by
  rcases hk.2 with h|h
  ·omega
  ·exact h
 rw [← hF] at hkF hlo ⊢
 rw [← hEE] at hE hB ⊢
 obtain ⟨la,hla⟩:∃ la,max (x+((o * 2 ^ j).log2:Int) - (F:Int)) f.leastPlace = la:=⟨_,rfl⟩
 have hla2:la = max (x+(j:Int)+(k:Int) - 1 - (F:Int)) (1 - (B:Int) - (F:Int)):=by rw [← hla,hleast]; congr 1; omega
 obtain ⟨z,hz⟩:∃ z:Nat,(z:Int) = x+(j:Int) - la:=⟨(x+(j:Int) - la).toNat,by omega⟩
 have hkept:Toward.even.cut s ((o * 2 ^ j) <<< (x - la).toNat) (la - x).toNat = o * 2 ^ z:=by
  rw [Nat.shiftLeft_eq]
  by_cases hc:la≤x
  ·have e1:=cut_even_exact s (o * 2 ^ j * 2 ^ (x - la).toNat) 0 (by omega)
   rw [Nat.pow_zero,Nat.mul_one] at e1
   rw [show (la - x).toNat = 0 from by omega,e1,Nat.mul_assoc,← Nat.pow_add,show j+(x - la).toNat = z from by omega]
  ·obtain ⟨d,hd⟩:∃ d,(la - x).toNat = d:=⟨_,rfl⟩
   rw [show (x - la).toNat = 0 from by omega,Nat.pow_zero,Nat.mul_one,hd]
   have e0:o * 2 ^ j = o * 2 ^ z * 2 ^ d:=by rw [Nat.mul_assoc,← Nat.pow_add,show z+d = j from by omega]
   rw [e0] at hlog ⊢
   exact cut_even_exact s (o * 2 ^ z) d (by omega)
 have hP:=pow_pos2 F
 have hpF:2 ^ (F+1) = 2 ^ F+2 ^ F:=by rw [Nat.pow_succ]; omega
 have fin:∀ ex fr:Nat,fr < 2 ^ F→ex+1 < 2 ^ E→(la - f.leastPlace).toNat * 2 ^ F+o * 2 ^ z = ex * 2 ^ F+fr →
   f.nearest s (o * 2 ^ j) x = s.toNat * 2 ^ (F+E)+(ex * 2 ^ F+fr):=fun ex fr h1 h2 h3=>by
  unfold Format.nearest
  rw [if_neg hne]
  simp only [← hF,hla,hkept,Format.binade,h3]
  have hinf:f.infRung = (2 ^ E - 1) * 2 ^ F:=by rw [Format.infRung,Format.binade,hF,hEE]
  have h4:(ex+1) * 2 ^ F≤(2 ^ E - 1) * 2 ^ F:=Nat.mul_le_mul_right _ (by omega)
  rw [Nat.add_mul,Nat.one_mul] at h4
  rw [Nat.min_eq_left (by rw [hinf]; omega),Format.word,hsw]
  cases s <;> simp
 by_cases hn:1 - (B:Int)≤x+(j:Int)+(k:Int) - 1
 ·have hz1:z+k = F+1:=by omega
  have g1:2 ^ F≤o * 2 ^ z:=by
   have:2 ^ (k - 1) * 2 ^ z≤o * 2 ^ z:=Nat.mul_le_mul_right _ hge
   rw [← Nat.pow_add,show k - 1+z = F from by omega] at this
   exact this
  have g2:o * 2 ^ z < 2 ^ (F+1):=by
   have:o * 2 ^ z < 2 ^ k * 2 ^ z:=Nat.mul_lt_mul_of_pos_right hk.1 (pow_pos2 z)
   rw [← Nat.pow_add,show k+z = F+1 from by omega] at this
   exact this
  obtain ⟨e,he⟩:∃ e:Nat,(la - f.leastPlace).toNat = e:=⟨_,rfl⟩
  refine ⟨z,e+1,o * 2 ^ z - 2 ^ F,fin (e+1) (o * 2 ^ z - 2 ^ F) (by omega) (by omega) ?_,by omega,by omega,Or.inr ⟨by omega,by omega,by omega⟩⟩
  rw [he,Nat.add_mul,Nat.one_mul]; omega
 ·have hla3:la = 1 - (B:Int) - (F:Int):=by omega
  have g2:o * 2 ^ z < 2 ^ F:=by
   have:o * 2 ^ z < 2 ^ k * 2 ^ z:=Nat.mul_lt_mul_of_pos_right hk.1 (pow_pos2 z)
   rw [← Nat.pow_add] at this
   exact Nat.lt_of_lt_of_le this (pow_bound (by omega))
  refine ⟨z,0,o * 2 ^ z,fin 0 (o * 2 ^ z) g2 (by omega) ?_,g2,by omega,Or.inl ⟨rfl,rfl,by omega⟩⟩
  rw [show (la - f.leastPlace).toNat = 0 from by omega]
@[irreducible] def gz:Nat:=1074
theorem gz_eq:gz = 1074:=by unfold gz; rfl
def Nv (b:Nat) (v:Int):Prop:=∃ s m i,double.read b = .number s m i∧-(gz:Int)≤i∧signed s m (i+gz).toNat = v
theorem signed_add (s:Bool) (m a c:Nat):signed s m (a+c) = signed s m a * ((2 ^ c:Nat):Int):=by
 rw [signed_eq,signed_eq,Nat.pow_add,← Nat.mul_assoc]
 cases s <;> simp [Int.natCast_mul,Int.neg_mul]
theorem signed_mul (s:Bool) (m z a:Nat):signed s (m * 2 ^ z) a = signed s m (z+a):=by
 rw [signed_eq,signed_eq,Nat.pow_add,Nat.mul_assoc]
theorem signed_not (s:Bool) (m a:Nat):signed (!s) m a = - signed s m a:=by
 rw [signed_eq,signed_eq]; cases s <;> simp
theorem signed_abs (s:Bool) (m a:Nat):(signed s m a).natAbs = m * 2 ^ a:=by
 rw [signed_eq]
 cases s
 ·rw [if_neg (by decide)]; exact Int.natAbs_natCast _
 ·rw [if_pos rfl,Int.natAbs_neg]; exact Int.natAbs_natCast _
theorem cmp_scale (a b p:Int) (hp:0 < p):compare (a * p) (b * p) = compare a b:=by
 rcases Int.lt_trichotomy a b with h|h|h
 ·rw [cmp_lt.2 h,cmp_lt.2 (Int.mul_lt_mul_of_pos_right h hp)]
 ·rw [cmp_eq.2 h,cmp_eq.2 (by rw [h])]
 ·rw [cmp_gt.2 h,cmp_gt.2 (Int.mul_lt_mul_of_pos_right h hp)]
theorem ppos (c:Nat):(0:Int) < ((2 ^ c:Nat):Int):=by have:=pow_pos2 c; omega
theorem ord_num {s t:Bool} {m n:Nat} {i j:Int} (hi:-(gz:Int)≤i) (hj:-(gz:Int)≤j) :
  (Datum.number s m i).order (.number t n j) = some (compare (signed s m (i+gz).toNat) (signed t n (j+gz).toNat)):=by
 simp only [Datum.order]
 obtain ⟨b,hb⟩:∃ b,min i j = b:=⟨_,rfl⟩
 rw [hb,show (i+gz).toNat = (i - b).toNat+(b+gz).toNat from by omega,show (j+gz).toNat = (j - b).toNat+(b+gz).toNat from by omega,signed_add,signed_add,cmp_scale _ _ _ (ppos _)]
theorem ord_nv {a b:Nat} {u v:Int} (ha:Nv a u) (hb:Nv b v):double.order a b = some (compare u v):=by
 obtain ⟨s,m,i,r1,h1,rfl⟩:=ha
 obtain ⟨t,n,j,r2,h2,rfl⟩:=hb
 rw [Format.order,r1,r2,ord_num h1 h2]
theorem double_least:double.leastPlace = -(gz:Int):=by rw [gz_eq]; rfl
theorem near_nv (s:Bool) (o j k:Nat) (x:Int) (h0:0 < o) (hk:Bl o k) (hkF:k≤53) (hlo:-(gz:Int)≤x+(j:Int)) (hhi:x+(j:Int)+(k:Int)≤1024) :
  Nv (double.nearest s (o * 2 ^ j) x) (signed s o (x+(j:Int)+gz).toNat):=by
 have hg:=gz_eq
 obtain ⟨z,ex,fr,e1,hfr,hex,hc⟩:=near_fields double 1023 s o j k x (by decide) (by decide) h0 hk hkF (by show 1 - ((1023:Nat):Int) - ((52:Nat):Int)≤_; omega) (by omega)
 have hB:Bt double.exponentBits double.fractionBits (double.nearest s (o * 2 ^ j) x) s ex fr:=⟨hfr,by omega,e1⟩
 have hr:=read_of double _ ex fr s hB
 have d1:((1:Int) - ((1023:Nat):Int) - (double.fractionBits:Int)) = -(gz:Int):=by rw [hg]; rfl
 rw [d1] at hc
 rw [double_least] at hr
 rcases hc with ⟨h1,h2,h3⟩|⟨h1,h2,h3⟩
 ·rw [if_pos h1] at hr
  refine ⟨s,fr,-(gz:Int),hr,by omega,?_⟩
  rw [← h2,signed_mul]; congr 1; omega
 ·rw [if_neg (by omega),if_pos (by omega)] at hr
  refine ⟨s,_,_,hr,by omega,?_⟩
  rw [Nat.add_comm,← h2,signed_mul]; congr 1; omega
theorem near_nv0 (s:Bool) (x:Int):Nv (double.nearest s 0 x) 0:=by
 have hg:=gz_eq
 refine ⟨s,0,-(gz:Int),?_,by omega,signed_zero _ _⟩
 rw [← double_least,show double.nearest s 0 x = double.word s 0 from if_pos rfl]
 cases s <;> decide +kernel
theorem word_cases (a:Nat) (ha:a < 18446744073709551616):(∃ s m i,double.read a = .number s m i∧m < 2 ^ 53∧-(gz:Int)≤i∧i≤971)∨(∃ s,double.read a = .infinity s)∨(∃ s t,double.read a = .nan s t):=by
 have hg:=gz_eq
 have hB:=Bt.of 11 52 a ha
 have hr:=read_of double a _ _ _ hB
 have h1:=hB.fr_lt
 have h2:=hB.ex_lt
 rw [double_least] at hr
 generalize decide (a / 2 ^ (52+11) = 1) = s at hr
 generalize a % 2 ^ (52+11) / 2 ^ 52 = ex at hr h2
 generalize a % 2 ^ 52 = fr at hr h1
 have e53:(2:Nat) ^ 53 = 9007199254740992:=by decide
 have e52:(2:Nat) ^ 52 = 4503599627370496:=by decide
 have e11:(2:Nat) ^ 11 = 2048:=by decide
 have f1:2 ^ double.fractionBits = 4503599627370496:=by decide
 have f2:2 ^ double.exponentBits = 2048:=by decide
 rw [f1,f2] at hr
 rw [e52] at h1
 rw [e11] at h2
 rw [e53]
 by_cases c1:ex = 0
 ·rw [if_pos c1] at hr
  exact Or.inl ⟨s,fr,_,hr,by omega,by omega,by omega⟩
 ·rw [if_neg c1] at hr
  by_cases c2:ex < 2048 - 1
  ·rw [if_pos c2] at hr
   exact Or.inl ⟨s,_,_,hr,by omega,by omega,by omega⟩
  ·rw [if_neg c2] at hr
   by_cases c3:fr = 0
   ·rw [if_pos c3] at hr; exact Or.inr (Or.inl ⟨s,hr⟩)
   ·rw [if_neg c3] at hr; exact Or.inr (Or.inr ⟨s,_,hr⟩)
theorem toInt_num (s:Bool) (m:Nat) (i:Int) (hi:-(gz:Int)≤i):(Datum.number s m i).toInt .zero = some (signed s (m * 2 ^ (i+gz).toNat / 2 ^ gz) 0):=by
 simp only [Datum.toInt,Datum.integral,cut_zero_div,Nat.shiftLeft_eq]
 congr 2
 by_cases h:0≤i
 ·rw [show (-i).toNat = 0 from by omega,Nat.pow_zero,Nat.div_one,show (i+gz).toNat = i.toNat+gz from by omega,Nat.pow_add,← Nat.mul_assoc,Nat.mul_div_cancel _ (pow_pos2 gz)]
 ·obtain ⟨e,he⟩:∃ e,(i+gz).toNat = e:=⟨_,rfl⟩
  rw [show i.toNat = 0 from by omega,Nat.pow_zero,Nat.mul_one,he,show gz = (-i).toNat+e from by omega,Nat.pow_add,Nat.mul_div_mul_right _ _ (pow_pos2 e)]
theorem sub_nv {a b:Nat} {u v:Int} {o:Nat} {i:Int} (ha:Nv a u) (hb:Nv b v) (hd:(u - v).natAbs = o * 2 ^ (i+gz).toNat) (ho:o < 2 ^ 53) (hi:-(gz:Int)≤i) (hi2:i≤971) :
  ∃ D,double.sub a b = some D∧Nv D (u - v):=by
 have hg:=gz_eq
 obtain ⟨s,m,p,r1,h1,rfl⟩:=ha
 obtain ⟨t,n,q,r2,h2,rfl⟩:=hb
 obtain ⟨c,hc⟩:∃ c,min p q = c:=⟨_,rfl⟩
 have hs:double.sub a b = ((Datum.number s m p).sum (.number (!t) n q)).map double.write:=by rw [Format.sub,r1,r2]; rfl
 simp only [Datum.sum,hc,Option.map_some,Format.write] at hs
 refine ⟨_,hs,?_⟩
 obtain ⟨T,hT⟩:∃ T,signed s m (p - c).toNat+signed (!t) n (q - c).toNat = T:=⟨_,rfl⟩
 rw [hT]
 obtain ⟨cg,hcg⟩:∃ cg,(c+gz).toNat = cg:=⟨_,rfl⟩
 have hTv:signed s m (p+gz).toNat - signed t n (q+gz).toNat = T * ((2 ^ cg:Nat):Int):=by
  rw [← hT,Int.add_mul,signed_not,Int.neg_mul,← signed_add,← signed_add,show (p - c).toNat+cg = (p+gz).toNat from by omega,show (q - c).toNat+cg = (q+gz).toNat from by omega]
  omega
 rw [hTv] at hd ⊢
 rw [Int.natAbs_mul,Int.natAbs_natCast] at hd
 by_cases h0:T = 0
 ·rw [h0,Int.zero_mul]
  exact near_nv0 _ _
 ·rw [if_neg h0]
  have hv:T * ((2 ^ cg:Nat):Int) = signed (decide (T < 0)) T.natAbs cg:=by
   rw [signed_eq]
   by_cases hn:T < 0
   ·rw [decide_eq_true hn,if_pos rfl,Int.natCast_mul,← Int.neg_mul]; congr 1; omega
   ·rw [decide_eq_false hn,if_neg (by decide),Int.natCast_mul]; congr 1; omega
  rw [hv]
  by_cases hci:c≤i
  ·obtain ⟨j,hj⟩:∃ j:Nat,(j:Int) = i - c:=⟨(i - c).toNat,by omega⟩
   have e1:T.natAbs = o * 2 ^ j:=by
    rw [show (i+gz).toNat = j+cg from by omega,Nat.pow_add,← Nat.mul_assoc] at hd
    exact Nat.eq_of_mul_eq_mul_right (pow_pos2 cg) hd
   have ho0:0 < o:=by
    rcases Nat.eq_zero_or_pos o with h|h
    ·rw [h,Nat.zero_mul] at e1; omega
    ·exact h
   have hk:=bl_blen o
   have hk53:=hk.le_of ho
   have:=near_nv (decide (T < 0)) o j (blen o) c ho0 hk hk53 (by omega) (by omega)
   rw [e1,signed_mul,show j+cg = (c+(j:Int)+gz).toNat from by omega]
   exact this
  ·obtain ⟨j,hj⟩:∃ j:Nat,(j:Int) = c - i:=⟨(c - i).toNat,by omega⟩
   have e1:T.natAbs * 2 ^ j = o:=by
    rw [show cg = j+(i+gz).toNat from by omega,Nat.pow_add,← Nat.mul_assoc] at hd
    exact Nat.eq_of_mul_eq_mul_right (pow_pos2 _) hd
   have hk:=bl_blen T.natAbs
   have h3:=(bl_shift j hk (by omega)).le_of (n:=53) (by rw [e1]; exact ho)
   have:=near_nv (decide (T < 0)) T.natAbs 0 (blen T.natAbs) c (by omega) hk (by omega) (by omega) (by omega)
   rw [Nat.pow_zero,Nat.mul_one,show (c+((0:Nat):Int)+gz).toNat = cg from by omega] at this
   exact this
end Go.Proofs.YtbgafednekomhaaGreatDoor
