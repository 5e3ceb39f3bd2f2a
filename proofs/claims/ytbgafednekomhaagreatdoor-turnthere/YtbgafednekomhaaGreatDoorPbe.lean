/- Of what TurnThereRow stands on: TnWhole TnAny TnAlive TnCut TnThere TnFl3. -/
import Derived.Test.YtbgafednekomhaaGreatDoorPbd
import Derived.Test.YtbgafednekomhaaGreatDoorPax
import Derived.Laws.Externs
namespace Go.Proofs.YtbgafednekomhaaGreatDoor
open Go.RowKit
open Ieee Go.RowKit
set_option maxHeartbeats 4000000
set_option maxRecDepth 20000
theorem div_pos (a a':Option Addr) (n n' cap cap' m d:Nat) (w:World) (h:Num w a n m) (h':Num w a' n' d) (hd:0 < d) :
  Calls Tryz.prog 87 #[.agg #[.slice a n cap],.agg #[.slice a' n' cap']] w fun e w'=>(∃ aq nq cq ar nr cr,e = .returned (.tuple #[.agg #[.slice aq nq cq],.agg #[.slice ar nr cr],.int .i64 0])∧Mine w' w.heap.size aq nq cq (m / d)∧Mine w' w.heap.size ar nr cr (m % d))∧Below w.heap.size w w':=by
 refine (div_any a a' n n' cap cap' m d w h h').mono ?_
 rintro e w' ⟨h1,hb⟩
 rcases h1 with ⟨h0,_⟩|⟨_,h1⟩
 ·omega
 ·exact ⟨h1,hb⟩
theorem sub_pos (a a':Option Addr) (n n' cap cap' m m':Nat) (w:World) (h:Num w a n m) (h':Num w a' n' m') (hle:m'≤m) :
  Calls Tryz.prog 92 #[.agg #[.slice a n cap],.agg #[.slice a' n' cap']] w fun e w'=>(∃ a n cap,e = .returned (.tuple #[.agg #[.slice a n cap],.bool true,.int .i64 0])∧Mine w' w.heap.size a n cap (m - m'))∧Below w.heap.size w w':=by
 refine (sub_any a a' n n' cap cap' m m' w h h').mono ?_
 rintro e w' ⟨h1,hb⟩
 rcases h1 with ⟨h0,_⟩|⟨_,h1⟩
 ·omega
 ·exact ⟨h1,hb⟩
theorem whole_exact (s:Bool) (a:Option Addr) (n cap m:Nat) (a':Option Addr) (n' cap' d:Nat) (md:Nat) (hm:md≤4) (hz:m % d = 0) (w:World) (h:Num w a n m) (h':Num w a' n' d) (hd:0 < d) (HC:Hid (∀ W:World,Below w.heap.size w W→Calls Tryz.prog 126 #[.agg #[.bool s,.slice a n cap,.slice a' n' cap']] W fun e w'=>e = .returned (.int .i64 0)∧Below W.heap.size W w')) :
  Calls Tryz.prog 46 #[.agg #[.bool s,.slice a n cap,.slice a' n' cap'],.int .u8 (md:Int)] w fun e w'=>(∃ A N C,e = .returned (.tuple #[.bool s,.agg #[.slice A N C],.bool true,.int .i64 0])∧Mine w' w.heap.size A N C (m / d))∧Below w.heap.size w w':=by
 have H:=hide h
 have H':=hide h'
 have HD:=hide hd
 have HM:=hide hm
 clear h h' hd hm
 have HZ:=hide hz
 clear hz
 go_enter Tryz.func46,Tryz.ntmps46
 go_wp2_with fail
 refine (tcheckF_ok s a n cap a' n' cap' md (unhide HM) _ (hide fun W hb=>unhide HC W (((Fs.two w _ _ _ _).kept hb).fr))).mono ?_
 rintro e w1 ⟨rfl,hb1⟩
 have hS:=(Fs.two w _ _ _ _).kept hb1
 obtain ⟨⟨ya,yb,yc,-⟩,⟨yd,-⟩,-⟩:=hS.cells
 have hltw1_0:w.heap.size < w1.heap.size:=hS.lt 0 rfl
 have hltw1_1:w.heap.size+1 < w1.heap.size:=hS.lt 1 rfl
 obtain ⟨WR,hWR⟩:∃ WR,w1.alloc (.cells #[.int .i64 0] 75) = WR:=⟨_,rfl⟩
 replace hS:=hS.alloc #[.int .i64 0] 75
 rw [hWR] at hS
 clear ya yb yc yd
 obtain ⟨⟨ye,-⟩,⟨yf,yg,yh,-⟩,⟨yi,-⟩,-⟩:=hS.cells
 have hsz1:w.heap.size≤WR.heap.size:=hS.size
 go_wp2_with fail
 refine (div_pos a a' n n' cap cap' m d _ ((unhide H).kept hS.fr) ((unhide H').kept hS.fr) (unhide HD)).mono ?_
 rintro e w2 ⟨⟨A1,N1,C1,A2,N2,C2,rfl,f1,f2⟩,hb2⟩
 replace hS:=hS.kept hb2
 clear ye yf yg yh yi
 obtain ⟨⟨yj,-⟩,⟨yk,yl,ym,-⟩,⟨yn,-⟩,-⟩:=hS.cells
 have G1:=hide (f1.mono (base':=w.heap.size) hsz1)
 have G2:=hide (f2.mono (base':=w.heap.size) hsz1)
 clear f1 f2 hsz1
 obtain rfl:N2 = 0:=(unhide G2).num.zero.2 (unhide HZ)
 go_wp2_with fail
 refine (runNats_0 _ _ _ _ _ _ _ _ _ ⟨_,_,hS.bx ⟨w1.heap.size,#[.int .i64 0],75⟩ (by simp),rfl⟩).mono ?_
 rintro e w3 ⟨rfl,hb3⟩
 replace hS:=hS.kept hb3
 clear yj yk yl ym yn
 obtain ⟨⟨yo,-⟩,⟨yp,yq,yr,-⟩,⟨ys,-⟩,-⟩:=hS.cells
 replace G1:=hide ((unhide G1).kept hb3)
 replace G2:=hide ((unhide G2).kept hb3)
 have hltw3_0:w1.heap.size < w3.heap.size:=hS.lt 0 rfl
 have hltw3_1:w.heap.size < w3.heap.size:=hS.lt 1 rfl
 have hltw3_2:w.heap.size+1 < w3.heap.size:=hS.lt 2 rfl
 obtain ⟨WA,hWA⟩:∃ WA,w3.alloc (.cells #[.slice none 0 0] 40) = WA:=⟨_,rfl⟩
 replace hS:=hS.alloc #[.slice none 0 0] 40
 rw [hWA] at hS
 replace G1:=hide (hWA▸(unhide G1).alloc (.cells #[.slice none 0 0] 40))
 replace G2:=hide (hWA▸(unhide G2).alloc (.cells #[.slice none 0 0] 40))
 clear yo yp yq yr ys
 obtain ⟨⟨yt,-⟩,⟨yu,-⟩,⟨yv,yw,yx,-⟩,⟨yy,-⟩,-⟩:=hS.cells
 have fzWB:=hS.frozen (b:=w.heap.size+1) (cs:=#[.slice none 0 0]) (t:=40) (by simp) 0
 obtain ⟨WB,hWB⟩:∃ z9,WA.setCell ⟨w.heap.size+1,0,none⟩ (.slice A1 N1 C1) = z9:=⟨_,rfl⟩
 replace G1:=hide (hWB▸(unhide G1).put (t:=40) (hS.bx ⟨w.heap.size+1,#[.slice none 0 0],40⟩ (by simp)) (by decide) 0 (.slice A1 N1 C1))
 replace G2:=hide (hWB▸(unhide G2).put (t:=40) (hS.bx ⟨w.heap.size+1,#[.slice none 0 0],40⟩ (by simp)) (by decide) 0 (.slice A1 N1 C1))
 have hltWA_0:w3.heap.size < WA.heap.size:=hS.lt 0 rfl
 have hltWA_1:w1.heap.size < WA.heap.size:=hS.lt 1 rfl
 have hltWA_2:w.heap.size < WA.heap.size:=hS.lt 2 rfl
 have hltWA_3:w.heap.size+1 < WA.heap.size:=hS.lt 3 rfl
 replace hS:=hS.put (b:=w.heap.size+1) (cs:=#[.slice none 0 0]) (t:=40) (by simp) (by first|omega|(simp <;> omega)) 0 (.slice A1 N1 C1) [⟨w3.heap.size,#[.slice none 0 0],40⟩,⟨w1.heap.size,#[.int .i64 0],75⟩,⟨w.heap.size,#[.bool s,.slice a n cap,.slice a' n' cap'],88⟩,⟨w.heap.size+1,#[.slice A1 N1 C1],40⟩] (by simp <;> omega)
 rw [hWB] at hS
 obtain ⟨⟨yz,-⟩,⟨y0,-⟩,⟨y1,y2,y3,-⟩,⟨y4,-⟩,-⟩:=hS.cells
 have fzWC:=hS.frozen (b:=w3.heap.size) (cs:=#[.slice none 0 0]) (t:=40) (by simp) 0
 obtain ⟨WC,hWC⟩:∃ z9,WB.setCell ⟨w3.heap.size,0,none⟩ (.slice A2 0 C2) = z9:=⟨_,rfl⟩
 replace G1:=hide (hWC▸(unhide G1).put (t:=40) (hS.bx ⟨w3.heap.size,#[.slice none 0 0],40⟩ (by simp)) (by decide) 0 (.slice A2 0 C2))
 replace G2:=hide (hWC▸(unhide G2).put (t:=40) (hS.bx ⟨w3.heap.size,#[.slice none 0 0],40⟩ (by simp)) (by decide) 0 (.slice A2 0 C2))
 have hltWB_0:w3.heap.size < WB.heap.size:=hS.lt 0 rfl
 have hltWB_1:w1.heap.size < WB.heap.size:=hS.lt 1 rfl
 have hltWB_2:w.heap.size < WB.heap.size:=hS.lt 2 rfl
 have hltWB_3:w.heap.size+1 < WB.heap.size:=hS.lt 3 rfl
 replace hS:=hS.put (b:=w3.heap.size) (cs:=#[.slice none 0 0]) (t:=40) (by simp) (by first|omega|(simp <;> omega)) 0 (.slice A2 0 C2) [⟨w3.heap.size,#[.slice A2 0 C2],40⟩,⟨w1.heap.size,#[.int .i64 0],75⟩,⟨w.heap.size,#[.bool s,.slice a n cap,.slice a' n' cap'],88⟩,⟨w.heap.size+1,#[.slice A1 N1 C1],40⟩] (by simp <;> omega)
 rw [hWC] at hS
 obtain ⟨⟨y5,-⟩,⟨y6,-⟩,⟨y7,y8,y9,-⟩,⟨yba,-⟩,-⟩:=hS.cells
 go_wp2_with fail
 clear yt yu yv yw yx yy fzWB yz y0 y1 y2 y3 y4 fzWC
 go_wp2_with fail
 refine (rnought_yes A2 C2 _).mono ?_
 rintro e w4 ⟨rfl,hb4⟩
 replace hS:=hS.kept hb4
 clear y5 y6 y7 y8 y9 yba
 obtain ⟨⟨ybb,-⟩,⟨ybc,-⟩,⟨ybd,ybe,ybf,-⟩,⟨ybg,-⟩,-⟩:=hS.cells
 replace G1:=hide ((unhide G1).kept hb4)
 replace G2:=hide ((unhide G2).kept hb4)
 have fz0:=hS.frozen (b:=w.heap.size+1) (cs:=#[.slice A1 N1 C1]) (t:=40) (by simp) 0
 go_wp2
 go_region
 go_wp2
 exact bodyPost_ret (v:=.tuple #[.bool s,.agg #[.slice A1 N1 C1],.bool true,.int .i64 0]) (by simp [results,Tryz.results46,go_sem,ybg]) rfl ⟨⟨_,_,_,rfl,(unhide G1).put (t:=40) (hS.bx ⟨w.heap.size+1,#[.slice A1 N1 C1],40⟩ (by simp)) (by decide) 0 _⟩,(hS.fr.setCell (show w.heap.size≤w.heap.size+1 by omega) _).drew⟩
theorem whole_near (a:Option Addr) (n cap m:Nat) (a':Option Addr) (n' cap' d:Nat) (md:Nat) (hm:md≤4) (r q:Nat) (o:Bool) (hr:m % d = r) (hz:0 < r) (hq:m / d = q) (ho:decide (q / 2 ^ 0 % 2 = 1) = o) (hle:r≤d) (HF:Tel 94 #[.agg #[.bool false,.bool o,.int .i64 (cmpI r (d - r))],.int .u8 (md:Int)] (.bool false)) (w:World) (h:Num w a n m) (h':Num w a' n' d) (hd:0 < d) (HC:Hid (∀ W:World,Below w.heap.size w W→Calls Tryz.prog 126 #[.agg #[.bool false,.slice a n cap,.slice a' n' cap']] W fun e w'=>e = .returned (.int .i64 0)∧Below W.heap.size W w')) :
  Calls Tryz.prog 46 #[.agg #[.bool false,.slice a n cap,.slice a' n' cap'],.int .u8 (md:Int)] w fun e w'=>(∃ A N C,e = .returned (.tuple #[.bool false,.agg #[.slice A N C],.bool false,.int .i64 0])∧Mine w' w.heap.size A N C (q))∧Below w.heap.size w w':=by
 have H:=hide h
 have H':=hide h'
 have HD:=hide hd
 have HM:=hide hm
 clear h h' hd hm
 subst hr
 subst hq
 have HZ:=hide hz
 have HLE:=hide hle
 have HBt:Hid (∀ (W:World) (A:Option Addr) (N C:Nat),Num W A N (m / d)→Calls Tryz.prog 93 #[.agg #[.slice A N C],.int .i64 0] W fun e w'=>e = .returned (.tuple #[.bool o,.int .i64 0])∧Below W.heap.size W w'):=hide fun W A N C g=>by rw [← ho]; exact bit_any A N C _ 0 W g (by decide)
 clear hz hle ho
 go_enter Tryz.func46,Tryz.ntmps46
 go_wp2_with fail
 refine (tcheckF_ok false a n cap a' n' cap' md (unhide HM) _ (hide fun W hb=>unhide HC W (((Fs.two w _ _ _ _).kept hb).fr))).mono ?_
 rintro e w1 ⟨rfl,hb1⟩
 have hS:=(Fs.two w _ _ _ _).kept hb1
 obtain ⟨⟨ya,yb,yc,-⟩,⟨yd,-⟩,-⟩:=hS.cells
 have hltw1_0:w.heap.size < w1.heap.size:=hS.lt 0 rfl
 have hltw1_1:w.heap.size+1 < w1.heap.size:=hS.lt 1 rfl
 obtain ⟨WR,hWR⟩:∃ WR,w1.alloc (.cells #[.int .i64 0] 75) = WR:=⟨_,rfl⟩
 replace hS:=hS.alloc #[.int .i64 0] 75
 rw [hWR] at hS
 clear ya yb yc yd
 obtain ⟨⟨ye,-⟩,⟨yf,yg,yh,-⟩,⟨yi,-⟩,-⟩:=hS.cells
 have hsz1:w.heap.size≤WR.heap.size:=hS.size
 go_wp2_with fail
 refine (div_pos a a' n n' cap cap' m d _ ((unhide H).kept hS.fr) ((unhide H').kept hS.fr) (unhide HD)).mono ?_
 rintro e w2 ⟨⟨A1,N1,C1,A2,N2,C2,rfl,f1,f2⟩,hb2⟩
 replace hS:=hS.kept hb2
 clear ye yf yg yh yi
 obtain ⟨⟨yj,-⟩,⟨yk,yl,ym,-⟩,⟨yn,-⟩,-⟩:=hS.cells
 have G1:=hide (f1.mono (base':=w.heap.size) hsz1)
 have G2:=hide (f2.mono (base':=w.heap.size) hsz1)
 clear f1 f2 hsz1
 have hn2:0 < N2:=by have:=(unhide G2).num.zero; have:=unhide HZ; omega
 go_wp2_with fail
 refine (runNats_0 _ _ _ _ _ _ _ _ _ ⟨_,_,hS.bx ⟨w1.heap.size,#[.int .i64 0],75⟩ (by simp),rfl⟩).mono ?_
 rintro e w3 ⟨rfl,hb3⟩
 replace hS:=hS.kept hb3
 clear yj yk yl ym yn
 obtain ⟨⟨yo,-⟩,⟨yp,yq,yr,-⟩,⟨ys,-⟩,-⟩:=hS.cells
 replace G1:=hide ((unhide G1).kept hb3)
 replace G2:=hide ((unhide G2).kept hb3)
 have hltw3_0:w1.heap.size < w3.heap.size:=hS.lt 0 rfl
 have hltw3_1:w.heap.size < w3.heap.size:=hS.lt 1 rfl
 have hltw3_2:w.heap.size+1 < w3.heap.size:=hS.lt 2 rfl
 obtain ⟨WA,hWA⟩:∃ WA,w3.alloc (.cells #[.slice none 0 0] 40) = WA:=⟨_,rfl⟩
 replace hS:=hS.alloc #[.slice none 0 0] 40
 rw [hWA] at hS
 replace G1:=hide (hWA▸(unhide G1).alloc (.cells #[.slice none 0 0] 40))
 replace G2:=hide (hWA▸(unhide G2).alloc (.cells #[.slice none 0 0] 40))
 clear yo yp yq yr ys
 obtain ⟨⟨yt,-⟩,⟨yu,-⟩,⟨yv,yw,yx,-⟩,⟨yy,-⟩,-⟩:=hS.cells
 have fzWB:=hS.frozen (b:=w.heap.size+1) (cs:=#[.slice none 0 0]) (t:=40) (by simp) 0
 obtain ⟨WB,hWB⟩:∃ z9,WA.setCell ⟨w.heap.size+1,0,none⟩ (.slice A1 N1 C1) = z9:=⟨_,rfl⟩
 replace G1:=hide (hWB▸(unhide G1).put (t:=40) (hS.bx ⟨w.heap.size+1,#[.slice none 0 0],40⟩ (by simp)) (by decide) 0 (.slice A1 N1 C1))
 replace G2:=hide (hWB▸(unhide G2).put (t:=40) (hS.bx ⟨w.heap.size+1,#[.slice none 0 0],40⟩ (by simp)) (by decide) 0 (.slice A1 N1 C1))
 have hltWA_0:w3.heap.size < WA.heap.size:=hS.lt 0 rfl
 have hltWA_1:w1.heap.size < WA.heap.size:=hS.lt 1 rfl
 have hltWA_2:w.heap.size < WA.heap.size:=hS.lt 2 rfl
 have hltWA_3:w.heap.size+1 < WA.heap.size:=hS.lt 3 rfl
 replace hS:=hS.put (b:=w.heap.size+1) (cs:=#[.slice none 0 0]) (t:=40) (by simp) (by first|omega|(simp <;> omega)) 0 (.slice A1 N1 C1) [⟨w3.heap.size,#[.slice none 0 0],40⟩,⟨w1.heap.size,#[.int .i64 0],75⟩,⟨w.heap.size,#[.bool false,.slice a n cap,.slice a' n' cap'],88⟩,⟨w.heap.size+1,#[.slice A1 N1 C1],40⟩] (by simp <;> omega)
 rw [hWB] at hS
 obtain ⟨⟨yz,-⟩,⟨y0,-⟩,⟨y1,y2,y3,-⟩,⟨y4,-⟩,-⟩:=hS.cells
 have fzWC:=hS.frozen (b:=w3.heap.size) (cs:=#[.slice none 0 0]) (t:=40) (by simp) 0
 obtain ⟨WC,hWC⟩:∃ z9,WB.setCell ⟨w3.heap.size,0,none⟩ (.slice A2 N2 C2) = z9:=⟨_,rfl⟩
 replace G1:=hide (hWC▸(unhide G1).put (t:=40) (hS.bx ⟨w3.heap.size,#[.slice none 0 0],40⟩ (by simp)) (by decide) 0 (.slice A2 N2 C2))
 replace G2:=hide (hWC▸(unhide G2).put (t:=40) (hS.bx ⟨w3.heap.size,#[.slice none 0 0],40⟩ (by simp)) (by decide) 0 (.slice A2 N2 C2))
 have hltWB_0:w3.heap.size < WB.heap.size:=hS.lt 0 rfl
 have hltWB_1:w1.heap.size < WB.heap.size:=hS.lt 1 rfl
 have hltWB_2:w.heap.size < WB.heap.size:=hS.lt 2 rfl
 have hltWB_3:w.heap.size+1 < WB.heap.size:=hS.lt 3 rfl
 replace hS:=hS.put (b:=w3.heap.size) (cs:=#[.slice none 0 0]) (t:=40) (by simp) (by first|omega|(simp <;> omega)) 0 (.slice A2 N2 C2) [⟨w3.heap.size,#[.slice A2 N2 C2],40⟩,⟨w1.heap.size,#[.int .i64 0],75⟩,⟨w.heap.size,#[.bool false,.slice a n cap,.slice a' n' cap'],88⟩,⟨w.heap.size+1,#[.slice A1 N1 C1],40⟩] (by simp <;> omega)
 rw [hWC] at hS
 obtain ⟨⟨y5,-⟩,⟨y6,-⟩,⟨y7,y8,y9,-⟩,⟨yba,-⟩,-⟩:=hS.cells
 go_wp2_with fail
 clear yt yu yv yw yx yy fzWB yz y0 y1 y2 y3 y4 fzWC
 go_wp2_with fail
 refine (rnought_no A2 N2 C2 hn2 _).mono ?_
 rintro e w4 ⟨rfl,hb4⟩
 replace hS:=hS.kept hb4
 clear y5 y6 y7 y8 y9 yba
 obtain ⟨⟨ybb,-⟩,⟨ybc,-⟩,⟨ybd,ybe,ybf,-⟩,⟨ybg,-⟩,-⟩:=hS.cells
 replace G1:=hide ((unhide G1).kept hb4)
 replace G2:=hide ((unhide G2).kept hb4)
 clear hn2
 go_wp2_with fail
 have hS3s:w.heap.size≤w4.heap.size:=hS.size
 have hs9:∀ x9:Nat×(Pk→World→Prop),x9∈([(4,fun q W=>Mine W w.heap.size q.A q.N q.C (d - m % d)),(14,fun _ W=>Mine W w.heap.size A1 N1 C1 (m / d)),(15,fun _ W=>Mine W w.heap.size A2 N2 C2 (m % d))]:List (Nat×(Pk→World→Prop)))→∀ q9:Pk,St w.heap.size (x9.2 q9):=by
  intro x hx q
  simp only [List.mem_cons,List.not_mem_nil,or_false] at hx
  rcases hx with rfl|rfl|rfl
  ·exact st_mine _ _ _ _ _
  ·exact st_mine2 _ _ _ _
  ·exact st_mine2 _ _ _ _
 have h09:∀ x9:Nat×(Pk→World→Prop),x9∈([(4,fun q W=>Mine W w.heap.size q.A q.N q.C (d - m % d)),(14,fun _ W=>Mine W w.heap.size A1 N1 C1 (m / d)),(15,fun _ W=>Mine W w.heap.size A2 N2 C2 (m % d))]:List (Nat×(Pk→World→Prop)))→14≤x9.1→x9.2 ⟨none,0,0⟩ w4:=by
  intro x hx hn9
  simp only [List.mem_cons,List.not_mem_nil,or_false] at hx
  rcases hx with rfl|rfl|rfl
  ·exact absurd hn9 (by simp)
  ·exact unhide G1
  ·exact unhide G2
 refine wp_region_any (by kernel_rfl) ?_
 refine wpAny_pick (fun p9=>[some (40,.agg #[.slice A2 N2 C2]),some (41,.pointer (some ⟨w.heap.size,2,none⟩)),some (42,.agg #[.slice a' n' cap']),some (43,.agg #[.slice A2 N2 C2]),some (44,.tuple #[.agg #[.slice (p9 4).A (p9 4).N (p9 4).C],.bool true,.int .i64 0]),some (45,.agg #[.slice (p9 4).A (p9 4).N (p9 4).C]),some (46,.bool true),some (47,.int .i64 0),some (48,.agg #[.slice (p9 4).A (p9 4).N (p9 4).C]),some (49,.tuple #[.int .i64 (cmpI (m % d) (d - m % d)),.int .i64 0]),some (50,.int .i64 (cmpI (m % d) (d - m % d))),some (51,.int .i64 0),some (52,.int .i64 (cmpI (m % d) (d - m % d))),some (11,.int .i64 (cmpI (m % d) (d - m % d)))])
  (fun p9 l9 W9=>Pm w w.heap.size [(4,fun q W=>Mine W w.heap.size q.A q.N q.C (d - m % d)),(14,fun _ W=>Mine W w.heap.size A1 N1 C1 (m / d)),(15,fun _ W=>Mine W w.heap.size A2 N2 C2 (m % d))] p9 l9 W9 [⟨w3.heap.size,#[.slice A2 N2 C2],40⟩,⟨w1.heap.size,#[.int .i64 0],75⟩,⟨w.heap.size,#[.bool false,.slice a n cap,.slice a' n' cap'],88⟩,⟨w.heap.size+1,#[.slice A1 N1 C1],40⟩]) _ _ (fun _=>rfl) (by kernel_rfl) (fun _=>rfl) (fun _=>rfl) ?_ ?_ (fun _=>⟨none,0,0⟩) (Pm.start2 hS _ _ _ (by omega) hs9 h09)
 ·intro p9 l9 t9 W9 i9 hD hi9 hl9 hM
  obtain ⟨o9,ho9,hd9⟩:=(mem_ready.1 hi9).2
  have hin9:i9 < 14:=by
   by_cases h:i9 < 14
   ·exact h
   ·rw [Array.getElem?_eq_none (by rw [hD.len]; simp; omega)] at hl9; cases hl9
  have hcase:i9 = 0∨i9 = 1∨i9 = 2∨i9 = 3∨i9 = 4∨i9 = 5∨i9 = 6∨i9 = 7∨i9 = 8∨i9 = 9∨i9 = 10∨i9 = 11∨i9 = 12∨i9 = 13:=by omega
  clear hin9
  rcases hcase with rfl|rfl|rfl|rfl|rfl|rfl|rfl|rfl|rfl|rfl|rfl|rfl|rfl|rfl
  ·cases ho9
   have r10:=hD.old 10 _ rfl rfl
   have hM0:=hM.st
   have c9_0:=hM0.cellAt (b:=w3.heap.size) (cs:=#[.slice A2 N2 C2]) (t:=40) (by simp) 0 _ rfl
   clear hM0
   refine wpOp_step rfl fun K hK=>?_
   go_simp
   exact hK _ _ ⟨p9,fun _ _=>rfl,rfl,(hM.val rfl)⟩
  ·cases ho9
   have r2:=hD.old 2 _ rfl rfl
   refine wpOp_step rfl fun K hK=>?_
   go_simp
   exact hK _ _ ⟨p9,fun _ _=>rfl,rfl,(hM.val rfl)⟩
  ·cases ho9
   have r41:=hD.od hd9 1 41 _ rfl (by simp)
   have hM0:=hM.st
   have c9_0:=hM0.cellAt (b:=w.heap.size) (cs:=#[.bool false,.slice a n cap,.slice a' n' cap']) (t:=88) (by simp) 2 _ rfl
   clear hM0
   refine wpOp_step rfl fun K hK=>?_
   go_simp
   exact hK _ _ ⟨p9,fun _ _=>rfl,rfl,(hM.val rfl)⟩
  ·cases ho9
   have r10:=hD.old 10 _ rfl rfl
   have hM0:=hM.st
   have c9_0:=hM0.cellAt (b:=w3.heap.size) (cs:=#[.slice A2 N2 C2]) (t:=40) (by simp) 0 _ rfl
   clear hM0
   refine wpOp_step rfl fun K hK=>?_
   go_simp
   exact hK _ _ ⟨p9,fun _ _=>rfl,rfl,(hM.val rfl)⟩
  ·cases ho9
   have r42:=hD.od hd9 2 42 _ rfl (by simp)
   have r43:=hD.od hd9 3 43 _ rfl (by simp)
   have ga0:=hM.fx _ (List.mem_of_getElem? (i:=1) rfl) (Or.inr (by rw [hD.len]; simp))
   try simp only [] at ga0
   have ga1:=hM.fx _ (List.mem_of_getElem? (i:=2) rfl) (Or.inr (by rw [hD.len]; simp))
   try simp only [] at ga1
   have HD:=hide hD
   refine wpOp_step rfl fun K hK=>?_
   go_simp
   go_wp2_with fail
   refine (sub_pos a' A2 n' N2 cap' C2 d (m % d) _ ((unhide H').kept hM.st.fr) ga1.num (unhide HLE)).mono ?_
   rintro en w9 ⟨⟨a9,n9,c9,rfl,h9⟩,hb9⟩
   refine hK _ _ ⟨p9.set 4 ⟨a9,n9,c9⟩,?_,rfl,((hM.kept hs9 hb9).pick ⟨a9,n9,c9⟩ ?_)⟩
   ·intro k9 hk9
    clear hM hK
    match k9,hk9 with
    | 0,_=>rfl
    | 1,_=>rfl
    | 2,_=>rfl
    | 3,_=>rfl
    | 4,hk9=>exact absurd (hl9.symm.trans hk9) (by simp)
    | 5,hk9=>exact absurd (hl9.symm.trans (getD_true ((unhide HD).shut 5 _ (hk9) rfl ⟨4,.data⟩ (by simp) rfl))) (by simp)
    | 6,hk9=>exact absurd (hl9.symm.trans (getD_true ((unhide HD).shut 6 _ (hk9) rfl ⟨4,.data⟩ (by simp) rfl))) (by simp)
    | 7,hk9=>exact absurd (hl9.symm.trans (getD_true ((unhide HD).shut 7 _ (hk9) rfl ⟨4,.data⟩ (by simp) rfl))) (by simp)
    | 8,hk9=>exact absurd (hl9.symm.trans (getD_true ((unhide HD).shut 8 _ (hk9) rfl ⟨4,.chain⟩ (by simp) rfl))) (by simp)
    | 9,hk9=>exact absurd (hl9.symm.trans (getD_true ((unhide HD).shut 8 _ (getD_true ((unhide HD).shut 9 _ (hk9) rfl ⟨8,.data⟩ (by simp) rfl)) rfl ⟨4,.chain⟩ (by simp) rfl))) (by simp)
    | 10,hk9=>exact absurd (hl9.symm.trans (getD_true ((unhide HD).shut 8 _ (getD_true ((unhide HD).shut 9 _ (getD_true ((unhide HD).shut 10 _ (hk9) rfl ⟨9,.data⟩ (by simp) rfl)) rfl ⟨8,.data⟩ (by simp) rfl)) rfl ⟨4,.chain⟩ (by simp) rfl))) (by simp)
    | 11,hk9=>exact absurd (hl9.symm.trans (getD_true ((unhide HD).shut 8 _ (getD_true ((unhide HD).shut 9 _ (getD_true ((unhide HD).shut 11 _ (hk9) rfl ⟨9,.data⟩ (by simp) rfl)) rfl ⟨8,.data⟩ (by simp) rfl)) rfl ⟨4,.chain⟩ (by simp) rfl))) (by simp)
    | 12,hk9=>exact absurd (hl9.symm.trans (getD_true ((unhide HD).shut 8 _ (getD_true ((unhide HD).shut 9 _ (getD_true ((unhide HD).shut 12 _ (hk9) rfl ⟨9,.chain⟩ (by simp) rfl)) rfl ⟨8,.data⟩ (by simp) rfl)) rfl ⟨4,.chain⟩ (by simp) rfl))) (by simp)
    | 13,hk9=>exact absurd (hl9.symm.trans (getD_true ((unhide HD).shut 13 _ (hk9) rfl ⟨4,.phase⟩ (by simp) rfl))) (by simp)
    | k9+14,_=>rfl
   ·intro x hx he; simp only [List.mem_cons,List.not_mem_nil,or_false] at hx; rcases hx with rfl|rfl|rfl
    ·exact h9.mono hM.bw
    ·exact absurd he (by simp)
    ·exact absurd he (by simp)
  ·cases ho9
   have r44:=hD.od hd9 4 44 _ rfl (by simp)
   refine wpOp_step rfl fun K hK=>?_
   go_simp
   exact hK _ _ ⟨p9,fun _ _=>rfl,rfl,(hM.val rfl)⟩
  ·cases ho9
   have r44:=hD.od hd9 4 44 _ rfl (by simp)
   refine wpOp_step rfl fun K hK=>?_
   go_simp
   exact hK _ _ ⟨p9,fun _ _=>rfl,rfl,(hM.val rfl)⟩
  ·cases ho9
   have r44:=hD.od hd9 4 44 _ rfl (by simp)
   refine wpOp_step rfl fun K hK=>?_
   go_simp
   exact hK _ _ ⟨p9,fun _ _=>rfl,rfl,(hM.val rfl)⟩
  ·cases ho9
   have r9:=hD.old 9 _ rfl rfl
   have r45:=hD.od hd9 5 45 _ rfl (by simp)
   have r46:=hD.od hd9 6 46 _ rfl (by simp)
   have r47:=hD.od hd9 7 47 _ rfl (by simp)
   have ga0:=hM.fx _ (List.mem_of_getElem? (i:=1) rfl) (Or.inr (by rw [hD.len]; simp))
   try simp only [] at ga0
   have ga1:=hM.fx _ (List.mem_of_getElem? (i:=2) rfl) (Or.inr (by rw [hD.len]; simp))
   try simp only [] at ga1
   have g4:=hM.fx _ (List.mem_of_getElem? (i:=0) rfl) (Or.inl (getD_true (hd9 ⟨4,.chain⟩ (by simp) rfl)))
   simp only [] at g4
   refine wpOp_step rfl fun K hK=>?_
   go_simp
   go_wp2_with fail
   refine (runLess_0 _ _ _ _ _ _ _ ⟨_,_,hM.st.bx ⟨w1.heap.size,#[.int .i64 0],75⟩ (by simp),rfl⟩).mono ?_
   rintro en w9 ⟨rfl,hb9⟩
   exact hK _ _ ⟨p9,fun _ _=>rfl,rfl,((hM.kept hs9 hb9).val rfl)⟩
  ·cases ho9
   have r40:=hD.od hd9 0 40 _ rfl (by simp)
   have r48:=hD.od hd9 8 48 _ rfl (by simp)
   have ga0:=hM.fx _ (List.mem_of_getElem? (i:=1) rfl) (Or.inr (by rw [hD.len]; simp))
   try simp only [] at ga0
   have ga1:=hM.fx _ (List.mem_of_getElem? (i:=2) rfl) (Or.inr (by rw [hD.len]; simp))
   try simp only [] at ga1
   have g4:=hM.fx _ (List.mem_of_getElem? (i:=0) rfl) (Or.inl (getD_true (hD.shut 8 _ (getD_true (hd9 ⟨8,.data⟩ (by simp) rfl)) rfl ⟨4,.chain⟩ (by simp) rfl)))
   simp only [] at g4
   refine wpOp_step rfl fun K hK=>?_
   go_simp
   go_wp2_with fail
   refine (cmpN_any _ _ _ _ _ _ _ _ _ ga1.num g4.num).mono ?_
   rintro en w9 ⟨rfl,hb9⟩
   exact hK _ _ ⟨p9,fun _ _=>rfl,rfl,((hM.kept hs9 hb9).val rfl)⟩
  ·cases ho9
   have r49:=hD.od hd9 9 49 _ rfl (by simp)
   refine wpOp_step rfl fun K hK=>?_
   go_simp
   exact hK _ _ ⟨p9,fun _ _=>rfl,rfl,(hM.val rfl)⟩
  ·cases ho9
   have r49:=hD.od hd9 9 49 _ rfl (by simp)
   refine wpOp_step rfl fun K hK=>?_
   go_simp
   exact hK _ _ ⟨p9,fun _ _=>rfl,rfl,(hM.val rfl)⟩
  ·cases ho9
   have r9:=hD.old 9 _ rfl rfl
   have r50:=hD.od hd9 10 50 _ rfl (by simp)
   have r51:=hD.od hd9 11 51 _ rfl (by simp)
   have ga0:=hM.fx _ (List.mem_of_getElem? (i:=1) rfl) (Or.inr (by rw [hD.len]; simp))
   try simp only [] at ga0
   have ga1:=hM.fx _ (List.mem_of_getElem? (i:=2) rfl) (Or.inr (by rw [hD.len]; simp))
   try simp only [] at ga1
   have g4:=hM.fx _ (List.mem_of_getElem? (i:=0) rfl) (Or.inl (getD_true (hD.shut 8 _ (getD_true (hD.shut 9 _ (getD_true (hD.shut 10 _ (getD_true (hd9 ⟨10,.data⟩ (by simp) rfl)) rfl ⟨9,.data⟩ (by simp) rfl)) rfl ⟨8,.data⟩ (by simp) rfl)) rfl ⟨4,.chain⟩ (by simp) rfl)))
   simp only [] at g4
   refine wpOp_step rfl fun K hK=>?_
   go_simp
   go_wp2_with fail
   refine (runInt_0 _ _ _ _ ⟨_,_,hM.st.bx ⟨w1.heap.size,#[.int .i64 0],75⟩ (by simp),rfl⟩).mono ?_
   rintro en w9 ⟨rfl,hb9⟩
   exact hK _ _ ⟨p9,fun _ _=>rfl,rfl,((hM.kept hs9 hb9).val rfl)⟩
  ·cases ho9
   have r52:=hD.od hd9 12 52 _ rfl (by simp)
   refine wpOp_step rfl fun K hK=>?_
   go_simp
   exact hK _ _ ⟨p9,fun _ _=>rfl,rfl,(hM.val rfl)⟩
 ·intro p9 l9 W9 hn9 hl9 hM
  have fr8_4:=hM.fx _ (List.mem_of_getElem? (i:=0) rfl) (Or.inl (hl9 4 (by decide)))
  have kr8_0:=hM.fx _ (List.mem_of_getElem? (i:=1) rfl) (Or.inr (by rw [hn9]; simp))
  try simp only [] at kr8_0
  have kr8_1:=hM.fx _ (List.mem_of_getElem? (i:=2) rfl) (Or.inr (by rw [hn9]; simp))
  try simp only [] at kr8_1
  replace hM:=hM.st
  clear hl9 hs9 h09 hn9
  generalize p9 4 = q4 at *
  obtain ⟨Ar8_4,Nr8_4,Cr8_4⟩:=q4
  simp only [] at fr8_4
  clear hS ybb ybc ybd ybe ybf ybg
  have hS:=hM
  clear hM
  simp only [Puts.lay,List.setIfInBounds_toArray,List.set_cons_zero,List.set_cons_succ]
  obtain ⟨⟨ybh,-⟩,⟨ybi,-⟩,⟨ybj,ybk,ybl,-⟩,⟨ybm,-⟩,-⟩:=hS.cells
  have K1:=hide kr8_0
  clear kr8_0 kr8_1 fr8_4 G1 G2
  go_wp2_with fail
  refine (unhide HBt _ _ _ _ (unhide K1).num).mono ?_
  rintro e w5 ⟨rfl,hb5⟩
  replace hS:=hS.kept hb5
  clear ybh ybi ybj ybk ybl ybm
  obtain ⟨⟨ybn,-⟩,⟨ybo,-⟩,⟨ybp,ybq,ybr,-⟩,⟨ybs,-⟩,-⟩:=hS.cells
  replace K1:=hide ((unhide K1).kept hb5)
  go_wp2_with fail
  refine (keep_0 _ _ _ ⟨_,_,hS.bx ⟨w1.heap.size,#[.int .i64 0],75⟩ (by simp),rfl⟩).mono ?_
  rintro e w6 ⟨rfl,hb6⟩
  replace hS:=hS.kept hb6
  clear ybn ybo ybp ybq ybr ybs
  obtain ⟨⟨ybt,-⟩,⟨ybu,-⟩,⟨ybv,ybw,ybx,-⟩,⟨yby,-⟩,-⟩:=hS.cells
  replace K1:=hide ((unhide K1).kept hb6)
  have hltw6_0:w3.heap.size < w6.heap.size:=hS.lt 0 rfl
  have hltw6_1:w1.heap.size < w6.heap.size:=hS.lt 1 rfl
  have hltw6_2:w.heap.size < w6.heap.size:=hS.lt 2 rfl
  have hltw6_3:w.heap.size+1 < w6.heap.size:=hS.lt 3 rfl
  obtain ⟨WT,hWT⟩:∃ WT,w6.alloc (.cells #[.bool false,.bool o,.int .i64 (cmpI (m % d) (d - m % d))] 150) = WT:=⟨_,rfl⟩
  replace hS:=hS.alloc #[.bool false,.bool o,.int .i64 (cmpI (m % d) (d - m % d))] 150
  rw [hWT] at hS
  replace K1:=hide (hWT▸(unhide K1).alloc (.cells #[.bool false,.bool o,.int .i64 (cmpI (m % d) (d - m % d))] 150))
  obtain ⟨⟨ybz,yb0,yb1,-⟩,⟨yb2,-⟩,⟨yb3,-⟩,⟨yb4,yb5,yb6,-⟩,⟨yb7,-⟩,-⟩:=hS.cells
  go_wp2_with fail
  refine (HF _).mono ?_
  rintro e w7 ⟨rfl,hb7⟩
  replace hS:=hS.kept hb7
  clear ybz yb0 yb1 yb2 yb3 yb4 yb5 yb6 yb7 ybt ybu ybv ybw ybx yby
  obtain ⟨⟨yb8,yb9,yca,-⟩,⟨ycb,-⟩,⟨ycc,-⟩,⟨ycd,yce,ycf,-⟩,⟨ycg,-⟩,-⟩:=hS.cells
  replace K1:=hide ((unhide K1).kept hb7)
  have fz0:=hS.frozen (b:=w.heap.size+1) (cs:=#[.slice A1 N1 C1]) (t:=40) (by simp) 0
  go_wp2
  go_region
  go_wp2
  exact bodyPost_ret (v:=.tuple #[.bool false,.agg #[.slice A1 N1 C1],.bool false,.int .i64 0]) (by simp [results,Tryz.results46,go_sem,ycg]) rfl ⟨⟨_,_,_,rfl,(unhide K1).put (t:=40) (hS.bx ⟨w.heap.size+1,#[.slice A1 N1 C1],40⟩ (by simp)) (by decide) 0 _⟩,(hS.fr.setCell (show w.heap.size≤w.heap.size+1 by omega) _).drew⟩
def FiIs (E F n:Int) (md:Int) (x y z:Int):Prop:=∀ W:World,Tb W→Calls Tryz.prog 10 #[.agg #[.int .i64 E,.int .i64 F],.int .i64 n,.int .u8 md] W fun e w'=>e = .returned (.tuple #[.int .u64 x,.int .u8 y,.int .i64 z])∧Below W.heap.size W w'
def InIs (E F b wd:Int) (md:Nat) (x y z:Int):Prop:=∀ W:World,Tb W→Nb W→Calls Tryz.prog 9 #[.agg #[.int .i64 E,.int .i64 F],.int .u64 b,.int .i64 wd,.int .u8 (md:Int)] W fun e w'=>e = .returned (.tuple #[.int .i64 x,.int .u8 y,.int .i64 z])∧Below W.heap.size W w'
theorem lt64 {u:Nat} (h:u < 18446744073709551616):u < 2 ^ 64:=Nat.lt_of_lt_of_le h (by decide)
theorem size_T (n:Int) (h1:-9223372036854775808≤n) (h2:n < 9223372036854775808):Tel 50 #[.int .i64 n] (.int .u64 (n.natAbs:Int)):=fun W=>by
 by_cases hn:n < 0
 ·have:=tsize_neg n.natAbs (by omega) (by omega) W
  rw [show -((n.natAbs:Nat):Int) = n from by omega] at this
  exact this
 ·have:=tsize_pos n.natAbs (by omega) W
  rw [show ((n.natAbs:Nat):Int) = n from by omega] at this ⊢
  exact this
theorem make_tz {u z:Nat} (q:Bool) (hu:0 < u) (hz:Tz u z) (hz2:z < 64) (W:World) (B:Nat) (A:Option Addr) (N C:Nat) (g:Mine W B A N C u) (hT:Tb W) :
  Calls Tryz.prog 48 #[.bool q,.agg #[.slice A N C],.int .i64 0] W fun e w'=>(∃ A N C,e = .returned (.tuple #[.agg #[.bool q,.slice A N C,.int .i64 (z:Int)],.int .i64 0])∧Mine w' W.heap.size A N C (u / 2 ^ z))∧Below W.heap.size W w':=by
 obtain ⟨c1,c2⟩:=mine_caps g
 have:=make_ok q A N C u z 0 W g.num hu hT hz (by omega) c1 c2 (by omega)
 rw [show (0:Int)+(z:Int) = (z:Int) from by omega] at this
 exact this
theorem make_z (q:Bool) (W:World) (B:Nat) (A:Option Addr) (N C:Nat) (g:Mine W B A N C 0) :
  Calls Tryz.prog 48 #[.bool q,.agg #[.slice A N C],.int .i64 0] W fun e w'=>(∃ A N C,e = .returned (.tuple #[.agg #[.bool false,.slice A N C,.int .i64 0],.int .i64 0])∧Mine w' W.heap.size A N C 0)∧Below W.heap.size W w':=by
 obtain rfl:=g.num.zero.2 rfl
 refine (make_nought q A C 0 W g.num).mono ?_
 rintro e w' ⟨rfl,hb⟩
 exact ⟨⟨none,0,0,rfl,mine_none _ _⟩,hb⟩
theorem fromInt_any {E F S I B md z k:Nat} (h:Fm E F S I) (HB:B = 2 ^ (E - 1) - 1) (hm:md≤4) (n:Int) (h0:n≠0) (h1:-9223372036854775808≤n) (h2:n < 9223372036854775808) (hz:Tz n.natAbs z) (hz2:z < 64) (hk:Bl (n.natAbs / 2 ^ z) k) :
  FiIs E F n md (bitsR S I md (decide (n < 0)) (rowR B F md (decide (n < 0)) (n.natAbs / 2 ^ z) k (z:Int)):Int) (flagR B F I md (decide (n < 0)) (n.natAbs / 2 ^ z) k (z:Int):Int) 0:=fun W hT=>
 FromInt_is E F n md n.natAbs (decide (n < 0)) (decide (n < 0)) (n.natAbs / 2 ^ z) (z:Int) _ _ 0 (by omega) rfl (size_T n h1 h2)
  (hide fun W B A N C g hT=>make_tz _ (by omega) hz hz2 W B A N C g hT)
  (hide fun W B A N C g=>rdyadic_any h HB hm false _ A N C _ k _ W B g ⟨hz.down.1,by omega,by omega⟩ hk) W hT
theorem fromInt_zero {E F S I md:Nat} (h:Fm E F S I) (hm:md≤4):FiIs E F 0 md 0 0 0:=fun W hT=>
 FromInt_is E F 0 md 0 false false 0 0 0 0 0 (by decide) rfl (size_T 0 (by decide) (by decide)) (hide fun W B A N C g _=>make_z false W B A N C g) (hide fun W B A N C g=>rdyadic_zero h hm false A N C W B g) W hT
theorem fromInt_form {E F:Int} (h:NoFo E F) (n:Int) (h1:-9223372036854775808≤n) (h2:n < 9223372036854775808) (md:Int):FiIs E F n md 0 0 5:=fun W hT=>by
 by_cases hn:n = 0
 ·subst hn
  exact FromInt_is E F 0 md 0 false false 0 0 0 0 5 (by decide) rfl (size_T 0 (by decide) (by decide)) (hide fun W B A N C g _=>make_z false W B A N C g) (hide fun W B A N C _=>rdyadic_form E F _ A N C _ _ _ (check_B h) W) W hT
 ·obtain ⟨z,hz,hz2⟩:=tz_ex (M:=n.natAbs) (f:=64) (by omega) (lt64 (by omega))
  exact FromInt_is E F n md n.natAbs (decide (n < 0)) (decide (n < 0)) (n.natAbs / 2 ^ z) (z:Int) 0 0 5 (by omega) rfl (size_T n h1 h2) (hide fun W B A N C g hT=>make_tz _ (by omega) hz hz2 W B A N C g hT) (hide fun W B A N C _=>rdyadic_form E F _ A N C _ _ _ (check_B h) W) W hT
theorem rk_ok (s:Bool) (a:Option Addr) (n cap m:Nat) (a':Option Addr) (n' cap' m':Nat) (w:World) (h:Num w a n m) (h':Num w a' n' m') (hm':0 < m') (hs:s = true→0 < m) (hg:Nat.gcd m m' = 1) :
  Calls Tryz.prog 126 #[.agg #[.bool s,.slice a n cap,.slice a' n' cap']] w fun e w'=>e = .returned (.int .i64 0)∧Below w.heap.size w w':=by
 have hn':0 < n':=by have:=h'.zero; omega
 cases s
 ·exact rk_ok_f a n cap m a' n' cap' m' w hn' h h' hg
 ·exact rk_ok_t a n cap m a' n' cap' m' w hn' (by have:=h.zero; have:=hs rfl; omega) h h' hg
theorem within64 (neg:Bool) (A:Option Addr) (N C u:Nat) (W:World) (g:Num W A N u) (hu:(neg = false∧u < 9223372036854775808)∨(neg = true∧u≤9223372036854775808)) :
  Calls Tryz.prog 47 #[.int .i64 64,.bool neg,.agg #[.slice A N C],.bool true] W fun e w'=>e = .returned (.tuple #[.int .i64 (if neg then -(u:Int) else (u:Int)),.int .u8 0,.int .i64 0])∧Below W.heap.size W w':=by
 have hN:N≤2:=num_two g (by omega)
 rcases hu with ⟨rfl,hu⟩|⟨rfl,hu⟩
 ·exact within_pt 64 9223372036854775807 9223372036854775807 A N C u (fun W=>tend_64_high W) (fun W=>tsize_pos 9223372036854775807 (by decide) W) (by omega) hu W g hN
 ·exact within_nt 64 (-9223372036854775808) 9223372036854775808 A N C u (fun W=>tend_64_low W) (fun W=>tsize_neg 9223372036854775808 (by decide) (by decide) W) hu hu W g hN
theorem int_whole {E F S I B b ex fr M z md x u:Nat} {neg:Bool} {xe:Int} (h:Fm E F S I) (HB:B = 2 ^ (E - 1) - 1) (hm:md≤4) (hB:Bt E F b neg ex fr) (hW:Wo E F B ex fr M z xe) (hx:xe+(z:Int) = (x:Int)) (hu:M / 2 ^ z * 2 ^ x = u) (hle:(neg = false∧u < 9223372036854775808)∨(neg = true∧u≤9223372036854775808)) :
  InIs E F b 64 md (if neg then -(u:Int) else (u:Int)) 0 0:=fun W hT hN=>by
 have hkd:=kind_T h hB
 have hrg:=hW.range h.fo (hide HB)
 have hF:=h.fo.f52
 have hzl:=hW.zle
 have hodd:=hW.odd.1
 have hfin:=hW.fin
 have hz:¬ (ex = 0∧fr = 0):=fun hc=>by
  rcases hW.part with ⟨_,_,h2,_⟩|⟨h2,_⟩ <;> omega
 have hc:cls ex fr (2 ^ E - 1) = 2∨cls ex fr (2 ^ E - 1) = 3:=by
  unfold cls
  by_cases he:ex = 0
  ·exact Or.inl (by rw [if_neg hz,if_pos he])
  ·exact Or.inr (by rw [if_neg hz,if_neg he,if_pos (by omega)])
 generalize cls ex fr (2 ^ E - 1) = c at hkd hc
 have h64:u < 2 ^ 64:=lt64 (by omega)
 have hv:=vals_wo h.fo (hide HB) hB hW
 rw [hx] at hv
 have hup:0 < u:=by rw [← hu]; exact Nat.mul_pos (Nat.pos_of_ne_zero fun h0=>by rw [h0] at hodd; cases hodd) (pow_pos2 x)
 refine Int_fin E F b 64 md (fits_T h (hB.two h)) (fun W=>twidth_64 W) hm c (by simp; omega) (by simp; omega) neg neg neg true (M / 2 ^ z) u 1 u (x:Int) _ _ hkd (hide hv) (hide fun W A N C g=>?_) (hide fun W A A' N C N' C' g g'=>?_) (hide fun W A N C g=>within64 neg A N C u W g hle) W hT hN
 ·have:=nratio_ok (s:=neg) (m:=M / 2 ^ z) (x:=(x:Int)) (Or.inr ⟨hodd,by omega,by omega⟩) (i:=x) (j:=0) (by omega) (by omega) (by rw [hu]; exact not_over h64 (by decide)) (not_over (n:=1) (by decide) (by decide)) W A N C g
  rw [hu] at this
  exact this
 ·have:=whole_exact neg A N C u A' N' C' 1 md hm (Nat.mod_one u) W g g' (by decide) (hide fun W' hb=>rk_ok neg A N C u A' N' C' 1 W' (g.kept hb) (g'.kept hb) (by decide) (fun _=>hup) (Nat.gcd_one_right u))
  rw [Nat.div_one] at this
  exact this
theorem int_zero {E F S I b md:Nat} {neg:Bool} (h:Fm E F S I) (hm:md≤4) (hB:Bt E F b neg 0 0):InIs E F b 64 md 0 0 0:=fun W hT hN=>by
 have hkd:=kind_T h hB
 rw [show cls 0 0 (2 ^ E - 1) = 1 from by unfold cls; rw [if_pos ⟨rfl,rfl⟩]] at hkd
 have hv:=vals_zero h.fo (hide rfl) hB
 refine Int_fin E F b 64 md (fits_T h (hB.two h)) (fun W=>twidth_64 W) hm _ rfl rfl neg false false true 0 0 1 0 0 _ _ hkd (hide hv) (hide fun W A N C g=>?_) (hide fun W A A' N C N' C' g g'=>?_) (hide fun W A N C g=>?_) W hT hN
 ·have:=nratio_ok (s:=false) (m:=0) (x:=0) (Or.inl ⟨rfl,rfl,rfl⟩) (i:=0) (j:=0) (by decide) (by decide) (not_over (n:=1) (by decide) (by decide)) (not_over (n:=1) (by decide) (by decide)) W A N C g
  exact this
 ·have:=whole_exact false A N C 0 A' N' C' 1 md hm rfl W g g' (by decide) (hide fun W' hb=>rk_ok false A N C 0 A' N' C' 1 W' (g.kept hb) (g'.kept hb) (by decide) (fun h=>by cases h) (by decide))
  exact this
 ·have:=within64 neg A N C 0 W g (by cases neg; exact Or.inl ⟨rfl,by decide⟩; exact Or.inr ⟨rfl,by decide⟩)
  cases neg <;> exact this
theorem fm5:Fm 5 10 32768 31744:=⟨⟨by decide,by decide,by decide,by decide⟩,by decide,by decide⟩
theorem fm11:Fm 11 52 9223372036854775808 9218868437227405312:=⟨⟨by decide,by decide,by decide,by decide⟩,by decide,by decide⟩
theorem toA:ToIs 11 52 5 10 4599676419421066581 0 13653 1 0:=by
 have hB:Bt 11 52 4599676419421066581 false 1021 1501199875790165:=⟨by decide,by decide,by decide⟩
 have hW:Wo 11 52 1023 1021 1501199875790165 6004799503160661 0 (-54):=⟨⟨3002399751580330,by decide⟩,Or.inr ⟨by decide,by decide,by decide⟩,by decide,by decide⟩
 have:=to_wo (md:=0) fm11 fm5 (B:=1023) (B':=15) (by decide) (by decide) (by decide) hB hW (k:=53) ⟨by decide,Or.inr (by decide)⟩
 exact this
theorem toB:ToIs 5 10 11 52 15360 0 4607182418800017408 0 0:=by
 have hB:Bt 5 10 15360 false 15 0:=⟨by decide,by decide,by decide⟩
 have hW:Wo 5 10 15 15 0 1024 10 (-10):=⟨⟨0,by decide⟩,Or.inr ⟨by decide,by decide,by decide⟩,by decide,by decide⟩
 have:=to_wo (md:=0) fm5 fm11 (B:=15) (B':=1023) (by decide) (by decide) (by decide) hB hW (k:=1) ⟨by decide,Or.inr (by decide)⟩
 exact this
theorem fiA:FiIs 5 10 2049 0 26624 1 0:=by
 have:=fromInt_any (md:=0) (z:=0) (k:=12) fm5 (B:=15) (by decide) (by decide) 2049 (by decide) (by decide) (by decide) ⟨1024,by decide⟩ (by decide) ⟨by decide,Or.inr (by decide)⟩
 exact this
theorem inA:InIs 5 10 16640 8 0 2 1 0:=fun W hT hN=>by
 have hB:Bt 5 10 16640 false 16 256:=⟨by decide,by decide,by decide⟩
 have hW:Wo 5 10 15 16 256 1280 8 (-9):=⟨⟨2,by decide⟩,Or.inr ⟨by decide,by decide,by decide⟩,by decide,by decide⟩
 have hv:Vals 5 10 16640 false 5 (-1):=vals_wo fm5.fo (hide (by decide)) hB hW
 refine Int_fin 5 10 16640 8 0 (fits_T fm5 (b:=16640) (by decide)) (fun W=>twidth_8 W) (by decide) 3 rfl rfl false false false false 5 5 2 2 (-1) 2 1 (kind_T fm5 hB) (hide hv) (hide fun W A N C g=>?_) (hide fun W A A' N C N' C' g g'=>?_) (hide fun W A N C g=>?_) W hT hN
 ·have:=nratio_ok (s:=false) (m:=5) (x:=-1) (Or.inr ⟨by decide,by decide,by decide⟩) (i:=0) (j:=1) (by decide) (by decide) (not_over (n:=3) (by decide) (by decide)) (not_over (n:=2) (by decide) (by decide)) W A N C g
  exact this
 ·have:=whole_near A N C 5 A' N' C' 2 0 (by decide) 1 2 false (by decide) (by decide) (by decide) (by decide) (by decide) (fun W=>farther_any 0 false false 0 (by decide) (Or.inr (Or.inl rfl)) W) W g g' (by decide) (hide fun W' hb=>rk_ok false A N C 5 A' N' C' 2 W' (g.kept hb) (g'.kept hb) (by decide) (fun h=>by cases h) (by decide))
  exact this
 ·exact within_pf 8 127 127 A N C 2 (fun W=>tend_8_high W) (fun W=>tsize_pos 127 (by decide) W) (by decide) (by decide) W g (num_two g (by decide))
theorem talive_any  (w:World) (hT:Tb w) (hN:Nb w) :
  Calls Tryz.prog 7 #[] w fun e w'=>e = .returned (.bool true)∧Below w.heap.size w w':=by
 have HT:=hide hT
 have HN:=hide hN
 clear hT hN
 have o1:FloatKind.f64.format.order 4607182418800017408 4607182418800017408 = some .eq:=by kernel_rfl
 have o2:FloatKind.f32.format.order 1077936128 1077936128 = some .eq:=by kernel_rfl
 go_enter Tryz.func7,Tryz.ntmps7
 go_wp2_with fail
 refine (toA _ ((unhide HT).kept (Fs.two w _ _ _ _).fr) ((unhide HN).kept (Fs.two w _ _ _ _).fr)).mono ?_
 rintro e w1 ⟨rfl,hb1⟩
 have hS:=(Fs.two w _ _ _ _).kept hb1
 obtain ⟨⟨ya,yb,-⟩,⟨yc,yd,-⟩,-⟩:=hS.cells
 go_wp2_with fail
 refine (inA _ ((unhide HT).kept hS.fr) ((unhide HN).kept hS.fr)).mono ?_
 rintro e w2 ⟨rfl,hb2⟩
 replace hS:=hS.kept hb2
 clear ya yb yc yd
 obtain ⟨⟨ye,yf,-⟩,⟨yg,yh,-⟩,-⟩:=hS.cells
 go_wp2_with fail
 refine (fiA _ ((unhide HT).kept hS.fr)).mono ?_
 rintro e w3 ⟨rfl,hb3⟩
 replace hS:=hS.kept hb3
 clear ye yf yg yh
 obtain ⟨⟨yi,yj,-⟩,⟨yk,yl,-⟩,-⟩:=hS.cells
 go_wp2_with fail
 refine (From64_ok 5 10 15360 4607182418800017408 0 toB _ ((unhide HT).kept hS.fr) ((unhide HN).kept hS.fr)).mono ?_
 rintro e w4 ⟨rfl,hb4⟩
 replace hS:=hS.kept hb4
 clear yi yj yk yl
 obtain ⟨⟨ym,yn,-⟩,⟨yo,yp,-⟩,-⟩:=hS.cells
 go_wp2_with fail
 refine (Cut8_127 _).mono ?_
 rintro e w5 ⟨rfl,hb5⟩
 replace hS:=hS.kept hb5
 clear ym yn yo yp
 obtain ⟨⟨yq,yr,-⟩,⟨ys,yt,-⟩,-⟩:=hS.cells
 go_wp2_with fail
 refine (Cutu8_m1 _).mono ?_
 rintro e w6 ⟨rfl,hb6⟩
 replace hS:=hS.kept hb6
 clear yq yr ys yt
 obtain ⟨⟨yu,yv,-⟩,⟨yw,yx,-⟩,-⟩:=hS.cells
 go_wp2_with fail
 refine (Near32_3 _).mono ?_
 rintro e w7 ⟨rfl,hb7⟩
 replace hS:=hS.kept hb7
 clear yu yv yw yx
 obtain ⟨⟨yy,yz,-⟩,⟨y0,y1,-⟩,-⟩:=hS.cells
 go_wp2
 go_ret
 exact ⟨rfl,hS.fr⟩
theorem fit64_any (n:Int) (w:World)  :
  Calls Tryz.prog 65 #[.int .i64 n] w fun e w'=>e = .returned (.tuple #[.int .i64 n,.bool true])∧Below w.heap.size w w':=by
 go_enter Tryz.func65,Tryz.ntmps65
 go_wp2
 go_ret2
 exact ⟨rfl,(Fs.begin w).fr⟩
theorem fitU_no (u:Int) (h1:9223372036854775808≤u) (h2:u < 18446744073709551616) (w:World)  :
  Calls Tryz.prog 66 #[.int .u64 u] w fun e w'=>e = .returned (.tuple #[.int .i64 0,.bool false])∧Below w.heap.size w w':=by
 have e1:IntKind.i64.wrap u = u - 18446744073709551616:=by rw [IntKind.wrap_i64]; omega
 have e2:IntKind.u64.wrap (u - 18446744073709551616) = u:=by rw [IntKind.wrap_u64]; omega
 have e3:u - 18446744073709551616 < 0:=by omega
 have e4:¬ u < 0:=by omega
 clear h1 h2
 go_enter Tryz.func66,Tryz.ntmps66
 go_wp2
 go_ret2
 exact ⟨rfl,(Fs.begin w).fr⟩
theorem CutI_in (a:Nat) (k:Int) (l e:Bool) (h1:(FloatKind.f64.format.order 14114281232179134464 a == some .lt) = l) (h2:(FloatKind.f64.format.order 14114281232179134464 a == some .eq) = e) (hle:(l || e) = true) (h3:(FloatKind.f64.format.order a 4890909195324358656 == some .lt) = true) (x1:∀ W:World,(convert 49 2 (.float .f64 a)).run Tryz.prog W = .ok (.int .i64 k) W) (w:World)  :
  Calls Tryz.prog 25 #[.float .f64 a] w fun e w'=>e = .returned (.tuple #[.int .i64 k,.bool true])∧Below w.heap.size w w':=by
 go_enter Tryz.func25,Tryz.ntmps25
 go_wp2_with fail
 refine (fit64_any _ _).mono ?_
 rintro e w1 ⟨rfl,hb1⟩
 have hS:=(Fs.begin w).kept hb1
 go_wp2
 go_ret2
 exact ⟨rfl,hS.fr⟩
theorem CutI_lo (a:Nat) (l e l' e':Bool) (h1:(FloatKind.f64.format.order 14114281232179134464 a == some .lt) = l) (h2:(FloatKind.f64.format.order 14114281232179134464 a == some .eq) = e) (hle:(l || e) = false) (h4:(FloatKind.f64.format.order 4890909195324358656 a == some .lt) = l') (h5:(FloatKind.f64.format.order 4890909195324358656 a == some .eq) = e') (hle':(l' || e') = false) (w:World)  :
  Calls Tryz.prog 25 #[.float .f64 a] w fun e w'=>e = .returned (.tuple #[.int .i64 0,.bool false])∧Below w.heap.size w w':=by
 go_enter Tryz.func25,Tryz.ntmps25
 go_wp2
 go_ret2
 exact ⟨rfl,(Fs.begin w).fr⟩
theorem CutI_hi (a:Nat) (l e l' e':Bool) (h1:(FloatKind.f64.format.order 14114281232179134464 a == some .lt) = l) (h2:(FloatKind.f64.format.order 14114281232179134464 a == some .eq) = e) (hle:(l || e) = true) (h3:(FloatKind.f64.format.order a 4890909195324358656 == some .lt) = false) (h4:(FloatKind.f64.format.order 4890909195324358656 a == some .lt) = l') (h5:(FloatKind.f64.format.order 4890909195324358656 a == some .eq) = e') (hle':(l' || e') = true) (h6:(FloatKind.f64.format.order a 4895412794951729152 == some .lt) = false) (w:World)  :
  Calls Tryz.prog 25 #[.float .f64 a] w fun e w'=>e = .returned (.tuple #[.int .i64 0,.bool false])∧Below w.heap.size w w':=by
 go_enter Tryz.func25,Tryz.ntmps25
 go_wp2
 go_ret2
 exact ⟨rfl,(Fs.begin w).fr⟩
theorem CutI_u (a:Nat) (k:Int) (l e l' e':Bool) (h1:(FloatKind.f64.format.order 14114281232179134464 a == some .lt) = l) (h2:(FloatKind.f64.format.order 14114281232179134464 a == some .eq) = e) (hle:(l || e) = true) (h3:(FloatKind.f64.format.order a 4890909195324358656 == some .lt) = false) (h4:(FloatKind.f64.format.order 4890909195324358656 a == some .lt) = l') (h5:(FloatKind.f64.format.order 4890909195324358656 a == some .eq) = e') (hle':(l' || e') = true) (h6:(FloatKind.f64.format.order a 4895412794951729152 == some .lt) = true) (x1:∀ W:World,(convert 49 25 (.float .f64 a)).run Tryz.prog W = .ok (.int .u64 k) W) (hk1:9223372036854775808≤k) (hk2:k < 18446744073709551616) (w:World)  :
  Calls Tryz.prog 25 #[.float .f64 a] w fun e w'=>e = .returned (.tuple #[.int .i64 0,.bool false])∧Below w.heap.size w w':=by
 have HU:=hide (fitU_no k hk1 hk2)
 clear hk1 hk2
 go_enter Tryz.func25,Tryz.ntmps25
 go_wp2_with fail
 refine (unhide HU _).mono ?_
 rintro e w1 ⟨rfl,hb1⟩
 have hS:=(Fs.begin w).kept hb1
 go_wp2
 go_ret2
 exact ⟨rfl,hS.fr⟩
theorem CutS_in (b a:Nat) (k:Int) (l e:Bool) (x0:∀ W:World,(convert 32 49 (.float .f32 b)).run Tryz.prog W = .ok (.float .f64 a) W) (h1:(FloatKind.f64.format.order 14114281232179134464 a == some .lt) = l) (h2:(FloatKind.f64.format.order 14114281232179134464 a == some .eq) = e) (hle:(l || e) = true) (h3:(FloatKind.f64.format.order a 4890909195324358656 == some .lt) = true) (x1:∀ W:World,(convert 49 2 (.float .f64 a)).run Tryz.prog W = .ok (.int .i64 k) W) (w:World)  :
  Calls Tryz.prog 27 #[.float .f32 b] w fun e w'=>e = .returned (.tuple #[.int .i64 k,.bool true])∧Below w.heap.size w w':=by
 go_enter Tryz.func27,Tryz.ntmps27
 go_wp2_with fail
 refine (fit64_any _ _).mono ?_
 rintro e w1 ⟨rfl,hb1⟩
 have hS:=(Fs.begin w).kept hb1
 go_wp2
 go_ret2
 exact ⟨rfl,hS.fr⟩
theorem NearD_any (n:Int) (w:World)  :
  Calls Tryz.prog 26 #[.int .i64 n] w fun e w'=>e = .returned (.float .f64 (floatOfInt .f64 n))∧Below w.heap.size w w':=by
 go_enter Tryz.func26,Tryz.ntmps26
 go_wp2
 go_ret
 exact ⟨rfl,(Fs.begin w).fr⟩
theorem NearS_any (n:Int) (w:World)  :
  Calls Tryz.prog 28 #[.int .i64 n] w fun e w'=>e = .returned (.float .f32 (floatOfInt .f32 n))∧Below w.heap.size w w':=by
 go_enter Tryz.func28,Tryz.ntmps28
 go_wp2
 go_ret
 exact ⟨rfl,(Fs.begin w).fr⟩
theorem run_trunc (b r : Nat) (w : World) (h : Extern.MathFloor.toIntegral "math.archTrunc" .zero #[.float .f64 b] = pure (.float .f64 r)) : (callFunc 67 #[.float .f64 b]).run Tryz.prog w = .ok (.value (.float .f64 r)) w := by
 rw [run_callFunc_extern (e := Extern.MathFloor.toIntegral "math.archTrunc" .zero) Tryz.func67 (by kernel_rfl) (by kernel_rfl) (by kernel_rfl) (by kernel_rfl), h]; rfl
theorem Trunc_any (b r : Nat) (h : Extern.MathFloor.toIntegral "math.archTrunc" .zero #[.float .f64 b] = pure (.float .f64 r)) (w : World)  :
  Calls Tryz.prog 29 #[.float .f64 b] w fun e w'=>e = .returned (.float .f64 r)∧Below w.heap.size w w':=by
 have x1:=fun w=>run_trunc b r w h
 clear h
 go_enter Tryz.func29,Tryz.ntmps29
 go_wp2
 go_ret
 exact ⟨rfl,(Fs.begin w).fr⟩
theorem there_lt_e (E F n m p:Int) (md a d5:Nat) (hm1:n / 1024 = m) (hp1:n / 549755813888 = p) (hmd:((md:Int)).tmod 5 = (d5:Int)) (HD:Tel 25 #[.float .f64 (floatOfInt .f64 m)] (.tuple #[.int .i64 m,.bool true])) (HS:Tel 27 #[.float .f32 (floatOfInt .f32 p)] (.tuple #[.int .i64 p,.bool true])) (bi fl er:Int) (her:(er == (0:Int)) = false) (HF:FiIs E F n d5 bi fl er) (k:Int) (T D1 D2:Nat) (HC:Tel 25 #[.float .f64 a] (.tuple #[.int .i64 k,.bool true])) (HT:Tel 29 #[.float .f64 a] (.float .f64 T)) (q1:(FloatKind.f64.format.order T (floatOfInt .f64 k) == some .eq) = true) (s1:∀ W:World,(binOp .sub 49 (.float .f64 a) (.float .f64 (floatOfInt .f64 k))).run Tryz.prog W = .ok (.float .f64 D1) W) (s2:∀ W:World,(binOp .sub 49 (.float .f64 (floatOfInt .f64 k)) (.float .f64 a)).run Tryz.prog W = .ok (.float .f64 D2) W) (q2:(FloatKind.f64.format.order D1 4607182418800017408 == some .lt) = true) (q3:(FloatKind.f64.format.order D2 4607182418800017408 == some .lt) = true) (q4:FloatKind.f64.format.order (floatOfInt .f64 k) a = some .lt) (q5:(FloatKind.f64.format.order a 0 == some .gt) = true)  (w:World) (hT:Tb w) (hN:Nb w) :
  Calls Tryz.prog 6 #[.agg #[.int .i64 E,.int .i64 F],.int .i64 n,.int .u8 (md:Int),.int .u64 (a:Int)] w fun e w'=>e = .returned (.bool true)∧Below w.heap.size w w':=by
 have HT0:=hide hT
 have HN0:=hide hN
 clear hT hN
 have x0:=run_tf64from
 go_enter Tryz.func6,Tryz.ntmps6
 go_wp2_with fail
 refine (talive_any _ ((unhide HT0).kept (Fs.one w _ _).fr) ((unhide HN0).kept (Fs.one w _ _).fr)).mono ?_
 rintro e w1 ⟨rfl,hb1⟩
 have hS:=(Fs.one w _ _).kept hb1
 obtain ⟨⟨ya,yb,-⟩,-⟩:=hS.cells
 go_wp2_with fail
 try simp only [hm1]
 refine (NearD_any m _).mono ?_
 rintro e w2 ⟨rfl,hb2⟩
 replace hS:=hS.kept hb2
 clear ya yb
 obtain ⟨⟨yc,yd,-⟩,-⟩:=hS.cells
 go_wp2_with fail
 refine (HD _).mono ?_
 rintro e w3 ⟨rfl,hb3⟩
 replace hS:=hS.kept hb3
 clear yc yd
 obtain ⟨⟨ye,yf,-⟩,-⟩:=hS.cells
 go_wp2_with fail
 try simp only [hp1]
 refine (NearS_any p _).mono ?_
 rintro e w4 ⟨rfl,hb4⟩
 replace hS:=hS.kept hb4
 clear ye yf
 obtain ⟨⟨yg,yh,-⟩,-⟩:=hS.cells
 go_wp2_with fail
 refine (HS _).mono ?_
 rintro e w5 ⟨rfl,hb5⟩
 replace hS:=hS.kept hb5
 clear yg yh
 obtain ⟨⟨yi,yj,-⟩,-⟩:=hS.cells
 go_wp2_with fail
 try simp only [hmd]
 refine (HF _ ((unhide HT0).kept hS.fr)).mono ?_
 rintro e w6 ⟨rfl,hb6⟩
 replace hS:=hS.kept hb6
 clear yi yj
 obtain ⟨⟨yk,yl,-⟩,-⟩:=hS.cells
 go_wp2_with fail
 refine (HC _).mono ?_
 rintro e w7 ⟨rfl,hb7⟩
 replace hS:=hS.kept hb7
 clear yk yl
 obtain ⟨⟨ym,yn,-⟩,-⟩:=hS.cells
 go_wp2_with fail
 refine (HT _).mono ?_
 rintro e w8 ⟨rfl,hb8⟩
 replace hS:=hS.kept hb8
 clear ym yn
 obtain ⟨⟨yo,yp,-⟩,-⟩:=hS.cells
 go_wp2
 go_ret
 exact ⟨rfl,hS.fr⟩
theorem there_lt_f (E F n m p:Int) (md a d5:Nat) (hm1:n / 1024 = m) (hp1:n / 549755813888 = p) (hmd:((md:Int)).tmod 5 = (d5:Int)) (HD:Tel 25 #[.float .f64 (floatOfInt .f64 m)] (.tuple #[.int .i64 m,.bool true])) (HS:Tel 27 #[.float .f32 (floatOfInt .f32 p)] (.tuple #[.int .i64 p,.bool true])) (bi fl:Int) (hfl:(fl == (0:Int)) = false) (HF:FiIs E F n d5 bi fl 0) (k:Int) (T D1 D2:Nat) (HC:Tel 25 #[.float .f64 a] (.tuple #[.int .i64 k,.bool true])) (HT:Tel 29 #[.float .f64 a] (.float .f64 T)) (q1:(FloatKind.f64.format.order T (floatOfInt .f64 k) == some .eq) = true) (s1:∀ W:World,(binOp .sub 49 (.float .f64 a) (.float .f64 (floatOfInt .f64 k))).run Tryz.prog W = .ok (.float .f64 D1) W) (s2:∀ W:World,(binOp .sub 49 (.float .f64 (floatOfInt .f64 k)) (.float .f64 a)).run Tryz.prog W = .ok (.float .f64 D2) W) (q2:(FloatKind.f64.format.order D1 4607182418800017408 == some .lt) = true) (q3:(FloatKind.f64.format.order D2 4607182418800017408 == some .lt) = true) (q4:FloatKind.f64.format.order (floatOfInt .f64 k) a = some .lt) (q5:(FloatKind.f64.format.order a 0 == some .gt) = true)  (w:World) (hT:Tb w) (hN:Nb w) :
  Calls Tryz.prog 6 #[.agg #[.int .i64 E,.int .i64 F],.int .i64 n,.int .u8 (md:Int),.int .u64 (a:Int)] w fun e w'=>e = .returned (.bool true)∧Below w.heap.size w w':=by
 have HT0:=hide hT
 have HN0:=hide hN
 clear hT hN
 have x0:=run_tf64from
 go_enter Tryz.func6,Tryz.ntmps6
 go_wp2_with fail
 refine (talive_any _ ((unhide HT0).kept (Fs.one w _ _).fr) ((unhide HN0).kept (Fs.one w _ _).fr)).mono ?_
 rintro e w1 ⟨rfl,hb1⟩
 have hS:=(Fs.one w _ _).kept hb1
 obtain ⟨⟨ya,yb,-⟩,-⟩:=hS.cells
 go_wp2_with fail
 try simp only [hm1]
 refine (NearD_any m _).mono ?_
 rintro e w2 ⟨rfl,hb2⟩
 replace hS:=hS.kept hb2
 clear ya yb
 obtain ⟨⟨yc,yd,-⟩,-⟩:=hS.cells
 go_wp2_with fail
 refine (HD _).mono ?_
 rintro e w3 ⟨rfl,hb3⟩
 replace hS:=hS.kept hb3
 clear yc yd
 obtain ⟨⟨ye,yf,-⟩,-⟩:=hS.cells
 go_wp2_with fail
 try simp only [hp1]
 refine (NearS_any p _).mono ?_
 rintro e w4 ⟨rfl,hb4⟩
 replace hS:=hS.kept hb4
 clear ye yf
 obtain ⟨⟨yg,yh,-⟩,-⟩:=hS.cells
 go_wp2_with fail
 refine (HS _).mono ?_
 rintro e w5 ⟨rfl,hb5⟩
 replace hS:=hS.kept hb5
 clear yg yh
 obtain ⟨⟨yi,yj,-⟩,-⟩:=hS.cells
 go_wp2_with fail
 try simp only [hmd]
 refine (HF _ ((unhide HT0).kept hS.fr)).mono ?_
 rintro e w6 ⟨rfl,hb6⟩
 replace hS:=hS.kept hb6
 clear yi yj
 obtain ⟨⟨yk,yl,-⟩,-⟩:=hS.cells
 go_wp2_with fail
 refine (HC _).mono ?_
 rintro e w7 ⟨rfl,hb7⟩
 replace hS:=hS.kept hb7
 clear yk yl
 obtain ⟨⟨ym,yn,-⟩,-⟩:=hS.cells
 go_wp2_with fail
 refine (HT _).mono ?_
 rintro e w8 ⟨rfl,hb8⟩
 replace hS:=hS.kept hb8
 clear ym yn
 obtain ⟨⟨yo,yp,-⟩,-⟩:=hS.cells
 go_wp2
 go_ret
 exact ⟨rfl,hS.fr⟩
theorem there_lt_i (E F n m p:Int) (md a d5:Nat) (hm1:n / 1024 = m) (hp1:n / 549755813888 = p) (hmd:((md:Int)).tmod 5 = (d5:Int)) (HD:Tel 25 #[.float .f64 (floatOfInt .f64 m)] (.tuple #[.int .i64 m,.bool true])) (HS:Tel 27 #[.float .f32 (floatOfInt .f32 p)] (.tuple #[.int .i64 p,.bool true])) (bi:Int) (HF:FiIs E F n d5 bi 0 0) (HI:InIs E F bi 64 d5 n 0 0) (k:Int) (T D1 D2:Nat) (HC:Tel 25 #[.float .f64 a] (.tuple #[.int .i64 k,.bool true])) (HT:Tel 29 #[.float .f64 a] (.float .f64 T)) (q1:(FloatKind.f64.format.order T (floatOfInt .f64 k) == some .eq) = true) (s1:∀ W:World,(binOp .sub 49 (.float .f64 a) (.float .f64 (floatOfInt .f64 k))).run Tryz.prog W = .ok (.float .f64 D1) W) (s2:∀ W:World,(binOp .sub 49 (.float .f64 (floatOfInt .f64 k)) (.float .f64 a)).run Tryz.prog W = .ok (.float .f64 D2) W) (q2:(FloatKind.f64.format.order D1 4607182418800017408 == some .lt) = true) (q3:(FloatKind.f64.format.order D2 4607182418800017408 == some .lt) = true) (q4:FloatKind.f64.format.order (floatOfInt .f64 k) a = some .lt) (q5:(FloatKind.f64.format.order a 0 == some .gt) = true)  (w:World) (hT:Tb w) (hN:Nb w) :
  Calls Tryz.prog 6 #[.agg #[.int .i64 E,.int .i64 F],.int .i64 n,.int .u8 (md:Int),.int .u64 (a:Int)] w fun e w'=>e = .returned (.bool true)∧Below w.heap.size w w':=by
 have HT0:=hide hT
 have HN0:=hide hN
 clear hT hN
 have x0:=run_tf64from
 go_enter Tryz.func6,Tryz.ntmps6
 go_wp2_with fail
 refine (talive_any _ ((unhide HT0).kept (Fs.one w _ _).fr) ((unhide HN0).kept (Fs.one w _ _).fr)).mono ?_
 rintro e w1 ⟨rfl,hb1⟩
 have hS:=(Fs.one w _ _).kept hb1
 obtain ⟨⟨ya,yb,-⟩,-⟩:=hS.cells
 go_wp2_with fail
 try simp only [hm1]
 refine (NearD_any m _).mono ?_
 rintro e w2 ⟨rfl,hb2⟩
 replace hS:=hS.kept hb2
 clear ya yb
 obtain ⟨⟨yc,yd,-⟩,-⟩:=hS.cells
 go_wp2_with fail
 refine (HD _).mono ?_
 rintro e w3 ⟨rfl,hb3⟩
 replace hS:=hS.kept hb3
 clear yc yd
 obtain ⟨⟨ye,yf,-⟩,-⟩:=hS.cells
 go_wp2_with fail
 try simp only [hp1]
 refine (NearS_any p _).mono ?_
 rintro e w4 ⟨rfl,hb4⟩
 replace hS:=hS.kept hb4
 clear ye yf
 obtain ⟨⟨yg,yh,-⟩,-⟩:=hS.cells
 go_wp2_with fail
 refine (HS _).mono ?_
 rintro e w5 ⟨rfl,hb5⟩
 replace hS:=hS.kept hb5
 clear yg yh
 obtain ⟨⟨yi,yj,-⟩,-⟩:=hS.cells
 go_wp2_with fail
 try simp only [hmd]
 refine (HF _ ((unhide HT0).kept hS.fr)).mono ?_
 rintro e w6 ⟨rfl,hb6⟩
 replace hS:=hS.kept hb6
 clear yi yj
 obtain ⟨⟨yk,yl,-⟩,-⟩:=hS.cells
 go_wp2_with fail
 try simp only [hmd]
 refine (HI _ ((unhide HT0).kept hS.fr) ((unhide HN0).kept hS.fr)).mono ?_
 rintro e w7 ⟨rfl,hb7⟩
 replace hS:=hS.kept hb7
 clear yk yl
 obtain ⟨⟨ym,yn,-⟩,-⟩:=hS.cells
 go_wp2_with fail
 refine (HC _).mono ?_
 rintro e w8 ⟨rfl,hb8⟩
 replace hS:=hS.kept hb8
 clear ym yn
 obtain ⟨⟨yo,yp,-⟩,-⟩:=hS.cells
 go_wp2_with fail
 refine (HT _).mono ?_
 rintro e w9 ⟨rfl,hb9⟩
 replace hS:=hS.kept hb9
 clear yo yp
 obtain ⟨⟨yq,yr,-⟩,-⟩:=hS.cells
 go_wp2
 go_ret
 exact ⟨rfl,hS.fr⟩
theorem there_eq_e (E F n m p:Int) (md a d5:Nat) (hm1:n / 1024 = m) (hp1:n / 549755813888 = p) (hmd:((md:Int)).tmod 5 = (d5:Int)) (HD:Tel 25 #[.float .f64 (floatOfInt .f64 m)] (.tuple #[.int .i64 m,.bool true])) (HS:Tel 27 #[.float .f32 (floatOfInt .f32 p)] (.tuple #[.int .i64 p,.bool true])) (bi fl er:Int) (her:(er == (0:Int)) = false) (HF:FiIs E F n d5 bi fl er) (k:Int) (T D1 D2:Nat) (HC:Tel 25 #[.float .f64 a] (.tuple #[.int .i64 k,.bool true])) (HT:Tel 29 #[.float .f64 a] (.float .f64 T)) (q1:(FloatKind.f64.format.order T (floatOfInt .f64 k) == some .eq) = true) (s1:∀ W:World,(binOp .sub 49 (.float .f64 a) (.float .f64 (floatOfInt .f64 k))).run Tryz.prog W = .ok (.float .f64 D1) W) (s2:∀ W:World,(binOp .sub 49 (.float .f64 (floatOfInt .f64 k)) (.float .f64 a)).run Tryz.prog W = .ok (.float .f64 D2) W) (q2:(FloatKind.f64.format.order D1 4607182418800017408 == some .lt) = true) (q3:(FloatKind.f64.format.order D2 4607182418800017408 == some .lt) = true) (q4:FloatKind.f64.format.order (floatOfInt .f64 k) a = some .eq)  (w:World) (hT:Tb w) (hN:Nb w) :
  Calls Tryz.prog 6 #[.agg #[.int .i64 E,.int .i64 F],.int .i64 n,.int .u8 (md:Int),.int .u64 (a:Int)] w fun e w'=>e = .returned (.bool true)∧Below w.heap.size w w':=by
 have HT0:=hide hT
 have HN0:=hide hN
 clear hT hN
 have x0:=run_tf64from
 go_enter Tryz.func6,Tryz.ntmps6
 go_wp2_with fail
 refine (talive_any _ ((unhide HT0).kept (Fs.one w _ _).fr) ((unhide HN0).kept (Fs.one w _ _).fr)).mono ?_
 rintro e w1 ⟨rfl,hb1⟩
 have hS:=(Fs.one w _ _).kept hb1
 obtain ⟨⟨ya,yb,-⟩,-⟩:=hS.cells
 go_wp2_with fail
 try simp only [hm1]
 refine (NearD_any m _).mono ?_
 rintro e w2 ⟨rfl,hb2⟩
 replace hS:=hS.kept hb2
 clear ya yb
 obtain ⟨⟨yc,yd,-⟩,-⟩:=hS.cells
 go_wp2_with fail
 refine (HD _).mono ?_
 rintro e w3 ⟨rfl,hb3⟩
 replace hS:=hS.kept hb3
 clear yc yd
 obtain ⟨⟨ye,yf,-⟩,-⟩:=hS.cells
 go_wp2_with fail
 try simp only [hp1]
 refine (NearS_any p _).mono ?_
 rintro e w4 ⟨rfl,hb4⟩
 replace hS:=hS.kept hb4
 clear ye yf
 obtain ⟨⟨yg,yh,-⟩,-⟩:=hS.cells
 go_wp2_with fail
 refine (HS _).mono ?_
 rintro e w5 ⟨rfl,hb5⟩
 replace hS:=hS.kept hb5
 clear yg yh
 obtain ⟨⟨yi,yj,-⟩,-⟩:=hS.cells
 go_wp2_with fail
 try simp only [hmd]
 refine (HF _ ((unhide HT0).kept hS.fr)).mono ?_
 rintro e w6 ⟨rfl,hb6⟩
 replace hS:=hS.kept hb6
 clear yi yj
 obtain ⟨⟨yk,yl,-⟩,-⟩:=hS.cells
 go_wp2_with fail
 refine (HC _).mono ?_
 rintro e w7 ⟨rfl,hb7⟩
 replace hS:=hS.kept hb7
 clear yk yl
 obtain ⟨⟨ym,yn,-⟩,-⟩:=hS.cells
 go_wp2_with fail
 refine (HT _).mono ?_
 rintro e w8 ⟨rfl,hb8⟩
 replace hS:=hS.kept hb8
 clear ym yn
 obtain ⟨⟨yo,yp,-⟩,-⟩:=hS.cells
 go_wp2
 go_ret
 exact ⟨rfl,hS.fr⟩
theorem there_eq_f (E F n m p:Int) (md a d5:Nat) (hm1:n / 1024 = m) (hp1:n / 549755813888 = p) (hmd:((md:Int)).tmod 5 = (d5:Int)) (HD:Tel 25 #[.float .f64 (floatOfInt .f64 m)] (.tuple #[.int .i64 m,.bool true])) (HS:Tel 27 #[.float .f32 (floatOfInt .f32 p)] (.tuple #[.int .i64 p,.bool true])) (bi fl:Int) (hfl:(fl == (0:Int)) = false) (HF:FiIs E F n d5 bi fl 0) (k:Int) (T D1 D2:Nat) (HC:Tel 25 #[.float .f64 a] (.tuple #[.int .i64 k,.bool true])) (HT:Tel 29 #[.float .f64 a] (.float .f64 T)) (q1:(FloatKind.f64.format.order T (floatOfInt .f64 k) == some .eq) = true) (s1:∀ W:World,(binOp .sub 49 (.float .f64 a) (.float .f64 (floatOfInt .f64 k))).run Tryz.prog W = .ok (.float .f64 D1) W) (s2:∀ W:World,(binOp .sub 49 (.float .f64 (floatOfInt .f64 k)) (.float .f64 a)).run Tryz.prog W = .ok (.float .f64 D2) W) (q2:(FloatKind.f64.format.order D1 4607182418800017408 == some .lt) = true) (q3:(FloatKind.f64.format.order D2 4607182418800017408 == some .lt) = true) (q4:FloatKind.f64.format.order (floatOfInt .f64 k) a = some .eq)  (w:World) (hT:Tb w) (hN:Nb w) :
  Calls Tryz.prog 6 #[.agg #[.int .i64 E,.int .i64 F],.int .i64 n,.int .u8 (md:Int),.int .u64 (a:Int)] w fun e w'=>e = .returned (.bool true)∧Below w.heap.size w w':=by
 have HT0:=hide hT
 have HN0:=hide hN
 clear hT hN
 have x0:=run_tf64from
 go_enter Tryz.func6,Tryz.ntmps6
 go_wp2_with fail
 refine (talive_any _ ((unhide HT0).kept (Fs.one w _ _).fr) ((unhide HN0).kept (Fs.one w _ _).fr)).mono ?_
 rintro e w1 ⟨rfl,hb1⟩
 have hS:=(Fs.one w _ _).kept hb1
 obtain ⟨⟨ya,yb,-⟩,-⟩:=hS.cells
 go_wp2_with fail
 try simp only [hm1]
 refine (NearD_any m _).mono ?_
 rintro e w2 ⟨rfl,hb2⟩
 replace hS:=hS.kept hb2
 clear ya yb
 obtain ⟨⟨yc,yd,-⟩,-⟩:=hS.cells
 go_wp2_with fail
 refine (HD _).mono ?_
 rintro e w3 ⟨rfl,hb3⟩
 replace hS:=hS.kept hb3
 clear yc yd
 obtain ⟨⟨ye,yf,-⟩,-⟩:=hS.cells
 go_wp2_with fail
 try simp only [hp1]
 refine (NearS_any p _).mono ?_
 rintro e w4 ⟨rfl,hb4⟩
 replace hS:=hS.kept hb4
 clear ye yf
 obtain ⟨⟨yg,yh,-⟩,-⟩:=hS.cells
 go_wp2_with fail
 refine (HS _).mono ?_
 rintro e w5 ⟨rfl,hb5⟩
 replace hS:=hS.kept hb5
 clear yg yh
 obtain ⟨⟨yi,yj,-⟩,-⟩:=hS.cells
 go_wp2_with fail
 try simp only [hmd]
 refine (HF _ ((unhide HT0).kept hS.fr)).mono ?_
 rintro e w6 ⟨rfl,hb6⟩
 replace hS:=hS.kept hb6
 clear yi yj
 obtain ⟨⟨yk,yl,-⟩,-⟩:=hS.cells
 go_wp2_with fail
 refine (HC _).mono ?_
 rintro e w7 ⟨rfl,hb7⟩
 replace hS:=hS.kept hb7
 clear yk yl
 obtain ⟨⟨ym,yn,-⟩,-⟩:=hS.cells
 go_wp2_with fail
 refine (HT _).mono ?_
 rintro e w8 ⟨rfl,hb8⟩
 replace hS:=hS.kept hb8
 clear ym yn
 obtain ⟨⟨yo,yp,-⟩,-⟩:=hS.cells
 go_wp2
 go_ret
 exact ⟨rfl,hS.fr⟩
theorem there_eq_i (E F n m p:Int) (md a d5:Nat) (hm1:n / 1024 = m) (hp1:n / 549755813888 = p) (hmd:((md:Int)).tmod 5 = (d5:Int)) (HD:Tel 25 #[.float .f64 (floatOfInt .f64 m)] (.tuple #[.int .i64 m,.bool true])) (HS:Tel 27 #[.float .f32 (floatOfInt .f32 p)] (.tuple #[.int .i64 p,.bool true])) (bi:Int) (HF:FiIs E F n d5 bi 0 0) (HI:InIs E F bi 64 d5 n 0 0) (k:Int) (T D1 D2:Nat) (HC:Tel 25 #[.float .f64 a] (.tuple #[.int .i64 k,.bool true])) (HT:Tel 29 #[.float .f64 a] (.float .f64 T)) (q1:(FloatKind.f64.format.order T (floatOfInt .f64 k) == some .eq) = true) (s1:∀ W:World,(binOp .sub 49 (.float .f64 a) (.float .f64 (floatOfInt .f64 k))).run Tryz.prog W = .ok (.float .f64 D1) W) (s2:∀ W:World,(binOp .sub 49 (.float .f64 (floatOfInt .f64 k)) (.float .f64 a)).run Tryz.prog W = .ok (.float .f64 D2) W) (q2:(FloatKind.f64.format.order D1 4607182418800017408 == some .lt) = true) (q3:(FloatKind.f64.format.order D2 4607182418800017408 == some .lt) = true) (q4:FloatKind.f64.format.order (floatOfInt .f64 k) a = some .eq)  (w:World) (hT:Tb w) (hN:Nb w) :
  Calls Tryz.prog 6 #[.agg #[.int .i64 E,.int .i64 F],.int .i64 n,.int .u8 (md:Int),.int .u64 (a:Int)] w fun e w'=>e = .returned (.bool true)∧Below w.heap.size w w':=by
 have HT0:=hide hT
 have HN0:=hide hN
 clear hT hN
 have x0:=run_tf64from
 go_enter Tryz.func6,Tryz.ntmps6
 go_wp2_with fail
 refine (talive_any _ ((unhide HT0).kept (Fs.one w _ _).fr) ((unhide HN0).kept (Fs.one w _ _).fr)).mono ?_
 rintro e w1 ⟨rfl,hb1⟩
 have hS:=(Fs.one w _ _).kept hb1
 obtain ⟨⟨ya,yb,-⟩,-⟩:=hS.cells
 go_wp2_with fail
 try simp only [hm1]
 refine (NearD_any m _).mono ?_
 rintro e w2 ⟨rfl,hb2⟩
 replace hS:=hS.kept hb2
 clear ya yb
 obtain ⟨⟨yc,yd,-⟩,-⟩:=hS.cells
 go_wp2_with fail
 refine (HD _).mono ?_
 rintro e w3 ⟨rfl,hb3⟩
 replace hS:=hS.kept hb3
 clear yc yd
 obtain ⟨⟨ye,yf,-⟩,-⟩:=hS.cells
 go_wp2_with fail
 try simp only [hp1]
 refine (NearS_any p _).mono ?_
 rintro e w4 ⟨rfl,hb4⟩
 replace hS:=hS.kept hb4
 clear ye yf
 obtain ⟨⟨yg,yh,-⟩,-⟩:=hS.cells
 go_wp2_with fail
 refine (HS _).mono ?_
 rintro e w5 ⟨rfl,hb5⟩
 replace hS:=hS.kept hb5
 clear yg yh
 obtain ⟨⟨yi,yj,-⟩,-⟩:=hS.cells
 go_wp2_with fail
 try simp only [hmd]
 refine (HF _ ((unhide HT0).kept hS.fr)).mono ?_
 rintro e w6 ⟨rfl,hb6⟩
 replace hS:=hS.kept hb6
 clear yi yj
 obtain ⟨⟨yk,yl,-⟩,-⟩:=hS.cells
 go_wp2_with fail
 try simp only [hmd]
 refine (HI _ ((unhide HT0).kept hS.fr) ((unhide HN0).kept hS.fr)).mono ?_
 rintro e w7 ⟨rfl,hb7⟩
 replace hS:=hS.kept hb7
 clear yk yl
 obtain ⟨⟨ym,yn,-⟩,-⟩:=hS.cells
 go_wp2_with fail
 refine (HC _).mono ?_
 rintro e w8 ⟨rfl,hb8⟩
 replace hS:=hS.kept hb8
 clear ym yn
 obtain ⟨⟨yo,yp,-⟩,-⟩:=hS.cells
 go_wp2_with fail
 refine (HT _).mono ?_
 rintro e w9 ⟨rfl,hb9⟩
 replace hS:=hS.kept hb9
 clear yo yp
 obtain ⟨⟨yq,yr,-⟩,-⟩:=hS.cells
 go_wp2
 go_ret
 exact ⟨rfl,hS.fr⟩
theorem there_gt_e (E F n m p:Int) (md a d5:Nat) (hm1:n / 1024 = m) (hp1:n / 549755813888 = p) (hmd:((md:Int)).tmod 5 = (d5:Int)) (HD:Tel 25 #[.float .f64 (floatOfInt .f64 m)] (.tuple #[.int .i64 m,.bool true])) (HS:Tel 27 #[.float .f32 (floatOfInt .f32 p)] (.tuple #[.int .i64 p,.bool true])) (bi fl er:Int) (her:(er == (0:Int)) = false) (HF:FiIs E F n d5 bi fl er) (k:Int) (T D1 D2:Nat) (HC:Tel 25 #[.float .f64 a] (.tuple #[.int .i64 k,.bool true])) (HT:Tel 29 #[.float .f64 a] (.float .f64 T)) (q1:(FloatKind.f64.format.order T (floatOfInt .f64 k) == some .eq) = true) (s1:∀ W:World,(binOp .sub 49 (.float .f64 a) (.float .f64 (floatOfInt .f64 k))).run Tryz.prog W = .ok (.float .f64 D1) W) (s2:∀ W:World,(binOp .sub 49 (.float .f64 (floatOfInt .f64 k)) (.float .f64 a)).run Tryz.prog W = .ok (.float .f64 D2) W) (q2:(FloatKind.f64.format.order D1 4607182418800017408 == some .lt) = true) (q3:(FloatKind.f64.format.order D2 4607182418800017408 == some .lt) = true) (q4:FloatKind.f64.format.order (floatOfInt .f64 k) a = some .gt) (q5:(FloatKind.f64.format.order a 0 == some .lt) = true)  (w:World) (hT:Tb w) (hN:Nb w) :
  Calls Tryz.prog 6 #[.agg #[.int .i64 E,.int .i64 F],.int .i64 n,.int .u8 (md:Int),.int .u64 (a:Int)] w fun e w'=>e = .returned (.bool true)∧Below w.heap.size w w':=by
 have HT0:=hide hT
 have HN0:=hide hN
 clear hT hN
 have x0:=run_tf64from
 go_enter Tryz.func6,Tryz.ntmps6
 go_wp2_with fail
 refine (talive_any _ ((unhide HT0).kept (Fs.one w _ _).fr) ((unhide HN0).kept (Fs.one w _ _).fr)).mono ?_
 rintro e w1 ⟨rfl,hb1⟩
 have hS:=(Fs.one w _ _).kept hb1
 obtain ⟨⟨ya,yb,-⟩,-⟩:=hS.cells
 go_wp2_with fail
 try simp only [hm1]
 refine (NearD_any m _).mono ?_
 rintro e w2 ⟨rfl,hb2⟩
 replace hS:=hS.kept hb2
 clear ya yb
 obtain ⟨⟨yc,yd,-⟩,-⟩:=hS.cells
 go_wp2_with fail
 refine (HD _).mono ?_
 rintro e w3 ⟨rfl,hb3⟩
 replace hS:=hS.kept hb3
 clear yc yd
 obtain ⟨⟨ye,yf,-⟩,-⟩:=hS.cells
 go_wp2_with fail
 try simp only [hp1]
 refine (NearS_any p _).mono ?_
 rintro e w4 ⟨rfl,hb4⟩
 replace hS:=hS.kept hb4
 clear ye yf
 obtain ⟨⟨yg,yh,-⟩,-⟩:=hS.cells
 go_wp2_with fail
 refine (HS _).mono ?_
 rintro e w5 ⟨rfl,hb5⟩
 replace hS:=hS.kept hb5
 clear yg yh
 obtain ⟨⟨yi,yj,-⟩,-⟩:=hS.cells
 go_wp2_with fail
 try simp only [hmd]
 refine (HF _ ((unhide HT0).kept hS.fr)).mono ?_
 rintro e w6 ⟨rfl,hb6⟩
 replace hS:=hS.kept hb6
 clear yi yj
 obtain ⟨⟨yk,yl,-⟩,-⟩:=hS.cells
 go_wp2_with fail
 refine (HC _).mono ?_
 rintro e w7 ⟨rfl,hb7⟩
 replace hS:=hS.kept hb7
 clear yk yl
 obtain ⟨⟨ym,yn,-⟩,-⟩:=hS.cells
 go_wp2_with fail
 refine (HT _).mono ?_
 rintro e w8 ⟨rfl,hb8⟩
 replace hS:=hS.kept hb8
 clear ym yn
 obtain ⟨⟨yo,yp,-⟩,-⟩:=hS.cells
 go_wp2
 go_ret
 exact ⟨rfl,hS.fr⟩
theorem there_gt_f (E F n m p:Int) (md a d5:Nat) (hm1:n / 1024 = m) (hp1:n / 549755813888 = p) (hmd:((md:Int)).tmod 5 = (d5:Int)) (HD:Tel 25 #[.float .f64 (floatOfInt .f64 m)] (.tuple #[.int .i64 m,.bool true])) (HS:Tel 27 #[.float .f32 (floatOfInt .f32 p)] (.tuple #[.int .i64 p,.bool true])) (bi fl:Int) (hfl:(fl == (0:Int)) = false) (HF:FiIs E F n d5 bi fl 0) (k:Int) (T D1 D2:Nat) (HC:Tel 25 #[.float .f64 a] (.tuple #[.int .i64 k,.bool true])) (HT:Tel 29 #[.float .f64 a] (.float .f64 T)) (q1:(FloatKind.f64.format.order T (floatOfInt .f64 k) == some .eq) = true) (s1:∀ W:World,(binOp .sub 49 (.float .f64 a) (.float .f64 (floatOfInt .f64 k))).run Tryz.prog W = .ok (.float .f64 D1) W) (s2:∀ W:World,(binOp .sub 49 (.float .f64 (floatOfInt .f64 k)) (.float .f64 a)).run Tryz.prog W = .ok (.float .f64 D2) W) (q2:(FloatKind.f64.format.order D1 4607182418800017408 == some .lt) = true) (q3:(FloatKind.f64.format.order D2 4607182418800017408 == some .lt) = true) (q4:FloatKind.f64.format.order (floatOfInt .f64 k) a = some .gt) (q5:(FloatKind.f64.format.order a 0 == some .lt) = true)  (w:World) (hT:Tb w) (hN:Nb w) :
  Calls Tryz.prog 6 #[.agg #[.int .i64 E,.int .i64 F],.int .i64 n,.int .u8 (md:Int),.int .u64 (a:Int)] w fun e w'=>e = .returned (.bool true)∧Below w.heap.size w w':=by
 have HT0:=hide hT
 have HN0:=hide hN
 clear hT hN
 have x0:=run_tf64from
 go_enter Tryz.func6,Tryz.ntmps6
 go_wp2_with fail
 refine (talive_any _ ((unhide HT0).kept (Fs.one w _ _).fr) ((unhide HN0).kept (Fs.one w _ _).fr)).mono ?_
 rintro e w1 ⟨rfl,hb1⟩
 have hS:=(Fs.one w _ _).kept hb1
 obtain ⟨⟨ya,yb,-⟩,-⟩:=hS.cells
 go_wp2_with fail
 try simp only [hm1]
 refine (NearD_any m _).mono ?_
 rintro e w2 ⟨rfl,hb2⟩
 replace hS:=hS.kept hb2
 clear ya yb
 obtain ⟨⟨yc,yd,-⟩,-⟩:=hS.cells
 go_wp2_with fail
 refine (HD _).mono ?_
 rintro e w3 ⟨rfl,hb3⟩
 replace hS:=hS.kept hb3
 clear yc yd
 obtain ⟨⟨ye,yf,-⟩,-⟩:=hS.cells
 go_wp2_with fail
 try simp only [hp1]
 refine (NearS_any p _).mono ?_
 rintro e w4 ⟨rfl,hb4⟩
 replace hS:=hS.kept hb4
 clear ye yf
 obtain ⟨⟨yg,yh,-⟩,-⟩:=hS.cells
 go_wp2_with fail
 refine (HS _).mono ?_
 rintro e w5 ⟨rfl,hb5⟩
 replace hS:=hS.kept hb5
 clear yg yh
 obtain ⟨⟨yi,yj,-⟩,-⟩:=hS.cells
 go_wp2_with fail
 try simp only [hmd]
 refine (HF _ ((unhide HT0).kept hS.fr)).mono ?_
 rintro e w6 ⟨rfl,hb6⟩
 replace hS:=hS.kept hb6
 clear yi yj
 obtain ⟨⟨yk,yl,-⟩,-⟩:=hS.cells
 go_wp2_with fail
 refine (HC _).mono ?_
 rintro e w7 ⟨rfl,hb7⟩
 replace hS:=hS.kept hb7
 clear yk yl
 obtain ⟨⟨ym,yn,-⟩,-⟩:=hS.cells
 go_wp2_with fail
 refine (HT _).mono ?_
 rintro e w8 ⟨rfl,hb8⟩
 replace hS:=hS.kept hb8
 clear ym yn
 obtain ⟨⟨yo,yp,-⟩,-⟩:=hS.cells
 go_wp2
 go_ret
 exact ⟨rfl,hS.fr⟩
theorem there_gt_i (E F n m p:Int) (md a d5:Nat) (hm1:n / 1024 = m) (hp1:n / 549755813888 = p) (hmd:((md:Int)).tmod 5 = (d5:Int)) (HD:Tel 25 #[.float .f64 (floatOfInt .f64 m)] (.tuple #[.int .i64 m,.bool true])) (HS:Tel 27 #[.float .f32 (floatOfInt .f32 p)] (.tuple #[.int .i64 p,.bool true])) (bi:Int) (HF:FiIs E F n d5 bi 0 0) (HI:InIs E F bi 64 d5 n 0 0) (k:Int) (T D1 D2:Nat) (HC:Tel 25 #[.float .f64 a] (.tuple #[.int .i64 k,.bool true])) (HT:Tel 29 #[.float .f64 a] (.float .f64 T)) (q1:(FloatKind.f64.format.order T (floatOfInt .f64 k) == some .eq) = true) (s1:∀ W:World,(binOp .sub 49 (.float .f64 a) (.float .f64 (floatOfInt .f64 k))).run Tryz.prog W = .ok (.float .f64 D1) W) (s2:∀ W:World,(binOp .sub 49 (.float .f64 (floatOfInt .f64 k)) (.float .f64 a)).run Tryz.prog W = .ok (.float .f64 D2) W) (q2:(FloatKind.f64.format.order D1 4607182418800017408 == some .lt) = true) (q3:(FloatKind.f64.format.order D2 4607182418800017408 == some .lt) = true) (q4:FloatKind.f64.format.order (floatOfInt .f64 k) a = some .gt) (q5:(FloatKind.f64.format.order a 0 == some .lt) = true)  (w:World) (hT:Tb w) (hN:Nb w) :
  Calls Tryz.prog 6 #[.agg #[.int .i64 E,.int .i64 F],.int .i64 n,.int .u8 (md:Int),.int .u64 (a:Int)] w fun e w'=>e = .returned (.bool true)∧Below w.heap.size w w':=by
 have HT0:=hide hT
 have HN0:=hide hN
 clear hT hN
 have x0:=run_tf64from
 go_enter Tryz.func6,Tryz.ntmps6
 go_wp2_with fail
 refine (talive_any _ ((unhide HT0).kept (Fs.one w _ _).fr) ((unhide HN0).kept (Fs.one w _ _).fr)).mono ?_
 rintro e w1 ⟨rfl,hb1⟩
 have hS:=(Fs.one w _ _).kept hb1
 obtain ⟨⟨ya,yb,-⟩,-⟩:=hS.cells
 go_wp2_with fail
 try simp only [hm1]
 refine (NearD_any m _).mono ?_
 rintro e w2 ⟨rfl,hb2⟩
 replace hS:=hS.kept hb2
 clear ya yb
 obtain ⟨⟨yc,yd,-⟩,-⟩:=hS.cells
 go_wp2_with fail
 refine (HD _).mono ?_
 rintro e w3 ⟨rfl,hb3⟩
 replace hS:=hS.kept hb3
 clear yc yd
 obtain ⟨⟨ye,yf,-⟩,-⟩:=hS.cells
 go_wp2_with fail
 try simp only [hp1]
 refine (NearS_any p _).mono ?_
 rintro e w4 ⟨rfl,hb4⟩
 replace hS:=hS.kept hb4
 clear ye yf
 obtain ⟨⟨yg,yh,-⟩,-⟩:=hS.cells
 go_wp2_with fail
 refine (HS _).mono ?_
 rintro e w5 ⟨rfl,hb5⟩
 replace hS:=hS.kept hb5
 clear yg yh
 obtain ⟨⟨yi,yj,-⟩,-⟩:=hS.cells
 go_wp2_with fail
 try simp only [hmd]
 refine (HF _ ((unhide HT0).kept hS.fr)).mono ?_
 rintro e w6 ⟨rfl,hb6⟩
 replace hS:=hS.kept hb6
 clear yi yj
 obtain ⟨⟨yk,yl,-⟩,-⟩:=hS.cells
 go_wp2_with fail
 try simp only [hmd]
 refine (HI _ ((unhide HT0).kept hS.fr) ((unhide HN0).kept hS.fr)).mono ?_
 rintro e w7 ⟨rfl,hb7⟩
 replace hS:=hS.kept hb7
 clear yk yl
 obtain ⟨⟨ym,yn,-⟩,-⟩:=hS.cells
 go_wp2_with fail
 refine (HC _).mono ?_
 rintro e w8 ⟨rfl,hb8⟩
 replace hS:=hS.kept hb8
 clear ym yn
 obtain ⟨⟨yo,yp,-⟩,-⟩:=hS.cells
 go_wp2_with fail
 refine (HT _).mono ?_
 rintro e w9 ⟨rfl,hb9⟩
 replace hS:=hS.kept hb9
 clear yo yp
 obtain ⟨⟨yq,yr,-⟩,-⟩:=hS.cells
 go_wp2
 go_ret
 exact ⟨rfl,hS.fr⟩
theorem there_og_e (E F n m p:Int) (md a d5:Nat) (hm1:n / 1024 = m) (hp1:n / 549755813888 = p) (hmd:((md:Int)).tmod 5 = (d5:Int)) (HD:Tel 25 #[.float .f64 (floatOfInt .f64 m)] (.tuple #[.int .i64 m,.bool true])) (HS:Tel 27 #[.float .f32 (floatOfInt .f32 p)] (.tuple #[.int .i64 p,.bool true])) (bi fl er:Int) (her:(er == (0:Int)) = false) (HF:FiIs E F n d5 bi fl er) (HC:Tel 25 #[.float .f64 a] (.tuple #[.int .i64 0,.bool false])) (q1:(FloatKind.f64.format.order a 14114281232179134464 == some .gt) = false)  (w:World) (hT:Tb w) (hN:Nb w) :
  Calls Tryz.prog 6 #[.agg #[.int .i64 E,.int .i64 F],.int .i64 n,.int .u8 (md:Int),.int .u64 (a:Int)] w fun e w'=>e = .returned (.bool true)∧Below w.heap.size w w':=by
 have HT0:=hide hT
 have HN0:=hide hN
 clear hT hN
 have x0:=run_tf64from
 go_enter Tryz.func6,Tryz.ntmps6
 go_wp2_with fail
 refine (talive_any _ ((unhide HT0).kept (Fs.one w _ _).fr) ((unhide HN0).kept (Fs.one w _ _).fr)).mono ?_
 rintro e w1 ⟨rfl,hb1⟩
 have hS:=(Fs.one w _ _).kept hb1
 obtain ⟨⟨ya,yb,-⟩,-⟩:=hS.cells
 go_wp2_with fail
 try simp only [hm1]
 refine (NearD_any m _).mono ?_
 rintro e w2 ⟨rfl,hb2⟩
 replace hS:=hS.kept hb2
 clear ya yb
 obtain ⟨⟨yc,yd,-⟩,-⟩:=hS.cells
 go_wp2_with fail
 refine (HD _).mono ?_
 rintro e w3 ⟨rfl,hb3⟩
 replace hS:=hS.kept hb3
 clear yc yd
 obtain ⟨⟨ye,yf,-⟩,-⟩:=hS.cells
 go_wp2_with fail
 try simp only [hp1]
 refine (NearS_any p _).mono ?_
 rintro e w4 ⟨rfl,hb4⟩
 replace hS:=hS.kept hb4
 clear ye yf
 obtain ⟨⟨yg,yh,-⟩,-⟩:=hS.cells
 go_wp2_with fail
 refine (HS _).mono ?_
 rintro e w5 ⟨rfl,hb5⟩
 replace hS:=hS.kept hb5
 clear yg yh
 obtain ⟨⟨yi,yj,-⟩,-⟩:=hS.cells
 go_wp2_with fail
 try simp only [hmd]
 refine (HF _ ((unhide HT0).kept hS.fr)).mono ?_
 rintro e w6 ⟨rfl,hb6⟩
 replace hS:=hS.kept hb6
 clear yi yj
 obtain ⟨⟨yk,yl,-⟩,-⟩:=hS.cells
 go_wp2_with fail
 refine (HC _).mono ?_
 rintro e w7 ⟨rfl,hb7⟩
 replace hS:=hS.kept hb7
 clear yk yl
 obtain ⟨⟨ym,yn,-⟩,-⟩:=hS.cells
 go_wp2
 go_ret
 exact ⟨rfl,hS.fr⟩
theorem there_og_f (E F n m p:Int) (md a d5:Nat) (hm1:n / 1024 = m) (hp1:n / 549755813888 = p) (hmd:((md:Int)).tmod 5 = (d5:Int)) (HD:Tel 25 #[.float .f64 (floatOfInt .f64 m)] (.tuple #[.int .i64 m,.bool true])) (HS:Tel 27 #[.float .f32 (floatOfInt .f32 p)] (.tuple #[.int .i64 p,.bool true])) (bi fl:Int) (hfl:(fl == (0:Int)) = false) (HF:FiIs E F n d5 bi fl 0) (HC:Tel 25 #[.float .f64 a] (.tuple #[.int .i64 0,.bool false])) (q1:(FloatKind.f64.format.order a 14114281232179134464 == some .gt) = false)  (w:World) (hT:Tb w) (hN:Nb w) :
  Calls Tryz.prog 6 #[.agg #[.int .i64 E,.int .i64 F],.int .i64 n,.int .u8 (md:Int),.int .u64 (a:Int)] w fun e w'=>e = .returned (.bool true)∧Below w.heap.size w w':=by
 have HT0:=hide hT
 have HN0:=hide hN
 clear hT hN
 have x0:=run_tf64from
 go_enter Tryz.func6,Tryz.ntmps6
 go_wp2_with fail
 refine (talive_any _ ((unhide HT0).kept (Fs.one w _ _).fr) ((unhide HN0).kept (Fs.one w _ _).fr)).mono ?_
 rintro e w1 ⟨rfl,hb1⟩
 have hS:=(Fs.one w _ _).kept hb1
 obtain ⟨⟨ya,yb,-⟩,-⟩:=hS.cells
 go_wp2_with fail
 try simp only [hm1]
 refine (NearD_any m _).mono ?_
 rintro e w2 ⟨rfl,hb2⟩
 replace hS:=hS.kept hb2
 clear ya yb
 obtain ⟨⟨yc,yd,-⟩,-⟩:=hS.cells
 go_wp2_with fail
 refine (HD _).mono ?_
 rintro e w3 ⟨rfl,hb3⟩
 replace hS:=hS.kept hb3
 clear yc yd
 obtain ⟨⟨ye,yf,-⟩,-⟩:=hS.cells
 go_wp2_with fail
 try simp only [hp1]
 refine (NearS_any p _).mono ?_
 rintro e w4 ⟨rfl,hb4⟩
 replace hS:=hS.kept hb4
 clear ye yf
 obtain ⟨⟨yg,yh,-⟩,-⟩:=hS.cells
 go_wp2_with fail
 refine (HS _).mono ?_
 rintro e w5 ⟨rfl,hb5⟩
 replace hS:=hS.kept hb5
 clear yg yh
 obtain ⟨⟨yi,yj,-⟩,-⟩:=hS.cells
 go_wp2_with fail
 try simp only [hmd]
 refine (HF _ ((unhide HT0).kept hS.fr)).mono ?_
 rintro e w6 ⟨rfl,hb6⟩
 replace hS:=hS.kept hb6
 clear yi yj
 obtain ⟨⟨yk,yl,-⟩,-⟩:=hS.cells
 go_wp2_with fail
 refine (HC _).mono ?_
 rintro e w7 ⟨rfl,hb7⟩
 replace hS:=hS.kept hb7
 clear yk yl
 obtain ⟨⟨ym,yn,-⟩,-⟩:=hS.cells
 go_wp2
 go_ret
 exact ⟨rfl,hS.fr⟩
theorem there_og_i (E F n m p:Int) (md a d5:Nat) (hm1:n / 1024 = m) (hp1:n / 549755813888 = p) (hmd:((md:Int)).tmod 5 = (d5:Int)) (HD:Tel 25 #[.float .f64 (floatOfInt .f64 m)] (.tuple #[.int .i64 m,.bool true])) (HS:Tel 27 #[.float .f32 (floatOfInt .f32 p)] (.tuple #[.int .i64 p,.bool true])) (bi:Int) (HF:FiIs E F n d5 bi 0 0) (HI:InIs E F bi 64 d5 n 0 0) (HC:Tel 25 #[.float .f64 a] (.tuple #[.int .i64 0,.bool false])) (q1:(FloatKind.f64.format.order a 14114281232179134464 == some .gt) = false)  (w:World) (hT:Tb w) (hN:Nb w) :
  Calls Tryz.prog 6 #[.agg #[.int .i64 E,.int .i64 F],.int .i64 n,.int .u8 (md:Int),.int .u64 (a:Int)] w fun e w'=>e = .returned (.bool true)∧Below w.heap.size w w':=by
 have HT0:=hide hT
 have HN0:=hide hN
 clear hT hN
 have x0:=run_tf64from
 go_enter Tryz.func6,Tryz.ntmps6
 go_wp2_with fail
 refine (talive_any _ ((unhide HT0).kept (Fs.one w _ _).fr) ((unhide HN0).kept (Fs.one w _ _).fr)).mono ?_
 rintro e w1 ⟨rfl,hb1⟩
 have hS:=(Fs.one w _ _).kept hb1
 obtain ⟨⟨ya,yb,-⟩,-⟩:=hS.cells
 go_wp2_with fail
 try simp only [hm1]
 refine (NearD_any m _).mono ?_
 rintro e w2 ⟨rfl,hb2⟩
 replace hS:=hS.kept hb2
 clear ya yb
 obtain ⟨⟨yc,yd,-⟩,-⟩:=hS.cells
 go_wp2_with fail
 refine (HD _).mono ?_
 rintro e w3 ⟨rfl,hb3⟩
 replace hS:=hS.kept hb3
 clear yc yd
 obtain ⟨⟨ye,yf,-⟩,-⟩:=hS.cells
 go_wp2_with fail
 try simp only [hp1]
 refine (NearS_any p _).mono ?_
 rintro e w4 ⟨rfl,hb4⟩
 replace hS:=hS.kept hb4
 clear ye yf
 obtain ⟨⟨yg,yh,-⟩,-⟩:=hS.cells
 go_wp2_with fail
 refine (HS _).mono ?_
 rintro e w5 ⟨rfl,hb5⟩
 replace hS:=hS.kept hb5
 clear yg yh
 obtain ⟨⟨yi,yj,-⟩,-⟩:=hS.cells
 go_wp2_with fail
 try simp only [hmd]
 refine (HF _ ((unhide HT0).kept hS.fr)).mono ?_
 rintro e w6 ⟨rfl,hb6⟩
 replace hS:=hS.kept hb6
 clear yi yj
 obtain ⟨⟨yk,yl,-⟩,-⟩:=hS.cells
 go_wp2_with fail
 try simp only [hmd]
 refine (HI _ ((unhide HT0).kept hS.fr) ((unhide HN0).kept hS.fr)).mono ?_
 rintro e w7 ⟨rfl,hb7⟩
 replace hS:=hS.kept hb7
 clear yk yl
 obtain ⟨⟨ym,yn,-⟩,-⟩:=hS.cells
 go_wp2_with fail
 refine (HC _).mono ?_
 rintro e w8 ⟨rfl,hb8⟩
 replace hS:=hS.kept hb8
 clear ym yn
 obtain ⟨⟨yo,yp,-⟩,-⟩:=hS.cells
 go_wp2
 go_ret
 exact ⟨rfl,hS.fr⟩
theorem there_ol_e (E F n m p:Int) (md a d5:Nat) (hm1:n / 1024 = m) (hp1:n / 549755813888 = p) (hmd:((md:Int)).tmod 5 = (d5:Int)) (HD:Tel 25 #[.float .f64 (floatOfInt .f64 m)] (.tuple #[.int .i64 m,.bool true])) (HS:Tel 27 #[.float .f32 (floatOfInt .f32 p)] (.tuple #[.int .i64 p,.bool true])) (bi fl er:Int) (her:(er == (0:Int)) = false) (HF:FiIs E F n d5 bi fl er) (HC:Tel 25 #[.float .f64 a] (.tuple #[.int .i64 0,.bool false])) (q1:(FloatKind.f64.format.order a 14114281232179134464 == some .gt) = true) (q2:(FloatKind.f64.format.order a 4890909195324358656 == some .lt) = false)  (w:World) (hT:Tb w) (hN:Nb w) :
  Calls Tryz.prog 6 #[.agg #[.int .i64 E,.int .i64 F],.int .i64 n,.int .u8 (md:Int),.int .u64 (a:Int)] w fun e w'=>e = .returned (.bool true)∧Below w.heap.size w w':=by
 have HT0:=hide hT
 have HN0:=hide hN
 clear hT hN
 have x0:=run_tf64from
 go_enter Tryz.func6,Tryz.ntmps6
 go_wp2_with fail
 refine (talive_any _ ((unhide HT0).kept (Fs.one w _ _).fr) ((unhide HN0).kept (Fs.one w _ _).fr)).mono ?_
 rintro e w1 ⟨rfl,hb1⟩
 have hS:=(Fs.one w _ _).kept hb1
 obtain ⟨⟨ya,yb,-⟩,-⟩:=hS.cells
 go_wp2_with fail
 try simp only [hm1]
 refine (NearD_any m _).mono ?_
 rintro e w2 ⟨rfl,hb2⟩
 replace hS:=hS.kept hb2
 clear ya yb
 obtain ⟨⟨yc,yd,-⟩,-⟩:=hS.cells
 go_wp2_with fail
 refine (HD _).mono ?_
 rintro e w3 ⟨rfl,hb3⟩
 replace hS:=hS.kept hb3
 clear yc yd
 obtain ⟨⟨ye,yf,-⟩,-⟩:=hS.cells
 go_wp2_with fail
 try simp only [hp1]
 refine (NearS_any p _).mono ?_
 rintro e w4 ⟨rfl,hb4⟩
 replace hS:=hS.kept hb4
 clear ye yf
 obtain ⟨⟨yg,yh,-⟩,-⟩:=hS.cells
 go_wp2_with fail
 refine (HS _).mono ?_
 rintro e w5 ⟨rfl,hb5⟩
 replace hS:=hS.kept hb5
 clear yg yh
 obtain ⟨⟨yi,yj,-⟩,-⟩:=hS.cells
 go_wp2_with fail
 try simp only [hmd]
 refine (HF _ ((unhide HT0).kept hS.fr)).mono ?_
 rintro e w6 ⟨rfl,hb6⟩
 replace hS:=hS.kept hb6
 clear yi yj
 obtain ⟨⟨yk,yl,-⟩,-⟩:=hS.cells
 go_wp2_with fail
 refine (HC _).mono ?_
 rintro e w7 ⟨rfl,hb7⟩
 replace hS:=hS.kept hb7
 clear yk yl
 obtain ⟨⟨ym,yn,-⟩,-⟩:=hS.cells
 go_wp2
 go_ret
 exact ⟨rfl,hS.fr⟩
theorem there_ol_f (E F n m p:Int) (md a d5:Nat) (hm1:n / 1024 = m) (hp1:n / 549755813888 = p) (hmd:((md:Int)).tmod 5 = (d5:Int)) (HD:Tel 25 #[.float .f64 (floatOfInt .f64 m)] (.tuple #[.int .i64 m,.bool true])) (HS:Tel 27 #[.float .f32 (floatOfInt .f32 p)] (.tuple #[.int .i64 p,.bool true])) (bi fl:Int) (hfl:(fl == (0:Int)) = false) (HF:FiIs E F n d5 bi fl 0) (HC:Tel 25 #[.float .f64 a] (.tuple #[.int .i64 0,.bool false])) (q1:(FloatKind.f64.format.order a 14114281232179134464 == some .gt) = true) (q2:(FloatKind.f64.format.order a 4890909195324358656 == some .lt) = false)  (w:World) (hT:Tb w) (hN:Nb w) :
  Calls Tryz.prog 6 #[.agg #[.int .i64 E,.int .i64 F],.int .i64 n,.int .u8 (md:Int),.int .u64 (a:Int)] w fun e w'=>e = .returned (.bool true)∧Below w.heap.size w w':=by
 have HT0:=hide hT
 have HN0:=hide hN
 clear hT hN
 have x0:=run_tf64from
 go_enter Tryz.func6,Tryz.ntmps6
 go_wp2_with fail
 refine (talive_any _ ((unhide HT0).kept (Fs.one w _ _).fr) ((unhide HN0).kept (Fs.one w _ _).fr)).mono ?_
 rintro e w1 ⟨rfl,hb1⟩
 have hS:=(Fs.one w _ _).kept hb1
 obtain ⟨⟨ya,yb,-⟩,-⟩:=hS.cells
 go_wp2_with fail
 try simp only [hm1]
 refine (NearD_any m _).mono ?_
 rintro e w2 ⟨rfl,hb2⟩
 replace hS:=hS.kept hb2
 clear ya yb
 obtain ⟨⟨yc,yd,-⟩,-⟩:=hS.cells
 go_wp2_with fail
 refine (HD _).mono ?_
 rintro e w3 ⟨rfl,hb3⟩
 replace hS:=hS.kept hb3
 clear yc yd
 obtain ⟨⟨ye,yf,-⟩,-⟩:=hS.cells
 go_wp2_with fail
 try simp only [hp1]
 refine (NearS_any p _).mono ?_
 rintro e w4 ⟨rfl,hb4⟩
 replace hS:=hS.kept hb4
 clear ye yf
 obtain ⟨⟨yg,yh,-⟩,-⟩:=hS.cells
 go_wp2_with fail
 refine (HS _).mono ?_
 rintro e w5 ⟨rfl,hb5⟩
 replace hS:=hS.kept hb5
 clear yg yh
 obtain ⟨⟨yi,yj,-⟩,-⟩:=hS.cells
 go_wp2_with fail
 try simp only [hmd]
 refine (HF _ ((unhide HT0).kept hS.fr)).mono ?_
 rintro e w6 ⟨rfl,hb6⟩
 replace hS:=hS.kept hb6
 clear yi yj
 obtain ⟨⟨yk,yl,-⟩,-⟩:=hS.cells
 go_wp2_with fail
 refine (HC _).mono ?_
 rintro e w7 ⟨rfl,hb7⟩
 replace hS:=hS.kept hb7
 clear yk yl
 obtain ⟨⟨ym,yn,-⟩,-⟩:=hS.cells
 go_wp2
 go_ret
 exact ⟨rfl,hS.fr⟩
theorem there_ol_i (E F n m p:Int) (md a d5:Nat) (hm1:n / 1024 = m) (hp1:n / 549755813888 = p) (hmd:((md:Int)).tmod 5 = (d5:Int)) (HD:Tel 25 #[.float .f64 (floatOfInt .f64 m)] (.tuple #[.int .i64 m,.bool true])) (HS:Tel 27 #[.float .f32 (floatOfInt .f32 p)] (.tuple #[.int .i64 p,.bool true])) (bi:Int) (HF:FiIs E F n d5 bi 0 0) (HI:InIs E F bi 64 d5 n 0 0) (HC:Tel 25 #[.float .f64 a] (.tuple #[.int .i64 0,.bool false])) (q1:(FloatKind.f64.format.order a 14114281232179134464 == some .gt) = true) (q2:(FloatKind.f64.format.order a 4890909195324358656 == some .lt) = false)  (w:World) (hT:Tb w) (hN:Nb w) :
  Calls Tryz.prog 6 #[.agg #[.int .i64 E,.int .i64 F],.int .i64 n,.int .u8 (md:Int),.int .u64 (a:Int)] w fun e w'=>e = .returned (.bool true)∧Below w.heap.size w w':=by
 have HT0:=hide hT
 have HN0:=hide hN
 clear hT hN
 have x0:=run_tf64from
 go_enter Tryz.func6,Tryz.ntmps6
 go_wp2_with fail
 refine (talive_any _ ((unhide HT0).kept (Fs.one w _ _).fr) ((unhide HN0).kept (Fs.one w _ _).fr)).mono ?_
 rintro e w1 ⟨rfl,hb1⟩
 have hS:=(Fs.one w _ _).kept hb1
 obtain ⟨⟨ya,yb,-⟩,-⟩:=hS.cells
 go_wp2_with fail
 try simp only [hm1]
 refine (NearD_any m _).mono ?_
 rintro e w2 ⟨rfl,hb2⟩
 replace hS:=hS.kept hb2
 clear ya yb
 obtain ⟨⟨yc,yd,-⟩,-⟩:=hS.cells
 go_wp2_with fail
 refine (HD _).mono ?_
 rintro e w3 ⟨rfl,hb3⟩
 replace hS:=hS.kept hb3
 clear yc yd
 obtain ⟨⟨ye,yf,-⟩,-⟩:=hS.cells
 go_wp2_with fail
 try simp only [hp1]
 refine (NearS_any p _).mono ?_
 rintro e w4 ⟨rfl,hb4⟩
 replace hS:=hS.kept hb4
 clear ye yf
 obtain ⟨⟨yg,yh,-⟩,-⟩:=hS.cells
 go_wp2_with fail
 refine (HS _).mono ?_
 rintro e w5 ⟨rfl,hb5⟩
 replace hS:=hS.kept hb5
 clear yg yh
 obtain ⟨⟨yi,yj,-⟩,-⟩:=hS.cells
 go_wp2_with fail
 try simp only [hmd]
 refine (HF _ ((unhide HT0).kept hS.fr)).mono ?_
 rintro e w6 ⟨rfl,hb6⟩
 replace hS:=hS.kept hb6
 clear yi yj
 obtain ⟨⟨yk,yl,-⟩,-⟩:=hS.cells
 go_wp2_with fail
 try simp only [hmd]
 refine (HI _ ((unhide HT0).kept hS.fr) ((unhide HN0).kept hS.fr)).mono ?_
 rintro e w7 ⟨rfl,hb7⟩
 replace hS:=hS.kept hb7
 clear yk yl
 obtain ⟨⟨ym,yn,-⟩,-⟩:=hS.cells
 go_wp2_with fail
 refine (HC _).mono ?_
 rintro e w8 ⟨rfl,hb8⟩
 replace hS:=hS.kept hb8
 clear ym yn
 obtain ⟨⟨yo,yp,-⟩,-⟩:=hS.cells
 go_wp2
 go_ret
 exact ⟨rfl,hS.fr⟩
theorem rep_le {q F:Nat} (h0:0 < q) (h:q≤2 ^ (F+1)):∃ o j k,q = o * 2 ^ j∧0 < o∧Bl o k∧k≤F+1∧j+k≤F+2:=by
 by_cases hc:q < 2 ^ (F+1)
 ·exact ⟨q,0,blen q,by simp,h0,bl_blen q,(bl_blen q).le_of hc,by have:=(bl_blen q).le_of hc; omega⟩
 ·exact ⟨1,F+1,1,by omega,by decide,⟨by decide,Or.inr (by decide)⟩,by omega,by omega⟩
theorem signed_int (n:Int) (a:Nat):signed (decide (n < 0)) n.natAbs a = n * ((2 ^ a:Nat):Int):=by
 rw [signed_eq]
 by_cases hn:n < 0
 ·rw [decide_eq_true hn,if_pos rfl,Int.natCast_mul,← Int.neg_mul]; congr 1; omega
 ·rw [decide_eq_false hn,if_neg (by decide),Int.natCast_mul]; congr 1; omega
theorem of_int (n:Int):floatOfInt .f64 n = double.nearest (decide (n < 0)) n.natAbs 0:=rfl
theorem of_int32 (n:Int):floatOfInt .f32 n = single.nearest (decide (n < 0)) n.natAbs 0:=rfl
theorem int_nv {n:Int} {o j k:Nat} (he:n.natAbs = o * 2 ^ j) (h0:0 < o) (hk:Bl o k) (hk53:k≤53) (hj:j+k≤1024):Nv (floatOfInt .f64 n) (n * ((2 ^ gz:Nat):Int)):=by
 have:=near_nv (decide (n < 0)) o j k 0 h0 hk hk53 (by omega) (by omega)
 rw [of_int,← signed_int,he,signed_mul]
 rw [show (0+(j:Int)+gz).toNat = j+gz from by omega] at this
 exact this
theorem int_nv0:Nv (floatOfInt .f64 0) 0:=by rw [of_int]; exact near_nv0 _ _
theorem int_nv53 (n:Int) (h1:n.natAbs≤2 ^ 53):Nv (floatOfInt .f64 n) (n * ((2 ^ gz:Nat):Int)):=by
 by_cases h0:n = 0
 ·subst h0; rw [Int.zero_mul]; exact int_nv0
 ·obtain ⟨o,j,k,he,ho,hk,hk1,hk2⟩:=rep_le (F:=52) (show 0 < n.natAbs by omega) h1
  exact int_nv he ho hk hk1 (by omega)
theorem int_nv24 (n:Int) (h1:n.natAbs≤2 ^ 24):∃ d,floatToFloatBits .f32 (floatOfInt .f32 n) .f64 = some d∧Nv d (n * ((2 ^ gz:Nat):Int)):=by
 have hg:=gz_eq
 have num:∀ (s:Bool) (m:Nat) (i:Int) (v:Int),single.read (floatOfInt .f32 n) = .number s m i→Nv (double.nearest s m i) v→∃ d,floatToFloatBits .f32 (floatOfInt .f32 n) .f64 = some d∧Nv d v:=fun s m i v hr hv=>by
  refine ⟨double.nearest s m i,?_,hv⟩
  obtain ⟨s',m',i',hr',_,_⟩:=hv
  have e1:FloatKind.f32.decode (floatOfInt .f32 n) = .number s m i:=hr
  have e2:FloatKind.f64.decode (double.nearest s m i) = .number s' m' i':=hr'
  unfold floatToFloatBits
  rw [if_neg (by decide),e1]
  show (if (FloatKind.f64.decode (double.nearest s m i)).isInfinity = true then none else some (double.nearest s m i)) = _
  rw [e2]; rfl
 by_cases h0:n = 0
 ·subst h0
  rw [Int.zero_mul]
  exact num false 0 (-149) 0 (by decide +kernel) (near_nv0 _ _)
 ·obtain ⟨o,j,k,he,ho,hk,hk1,hk2⟩:=rep_le (F:=23) (show 0 < n.natAbs by omega) h1
  obtain ⟨z,ex,fr,e1,hfr,hex,hc⟩:=near_fields single 127 (decide (n < 0)) o j k 0 (by decide) (by decide) ho hk hk1 (by show 1 - ((127:Nat):Int) - ((23:Nat):Int)≤_; omega) (by omega)
  rw [← he,← of_int32] at e1
  have hB:Bt single.exponentBits single.fractionBits (floatOfInt .f32 n) (decide (n < 0)) ex fr:=⟨hfr,by omega,e1⟩
  have hr:=read_of single _ ex fr _ hB
  have hl:single.leastPlace = 1 - ((127:Nat):Int) - (single.fractionBits:Int):=rfl
  have hl2:single.leastPlace = -149:=rfl
  rw [← hl] at hc
  have hv:Nv (double.nearest (decide (n < 0)) (o * 2 ^ z) ((j:Int) - (z:Int))) (n * ((2 ^ gz:Nat):Int)):=by
   have:=near_nv (decide (n < 0)) o z k ((j:Int) - (z:Int)) ho hk (by omega) (by omega) (by omega)
   rw [show ((j:Int) - (z:Int)+(z:Int)+gz).toNat = j+gz from by omega,← signed_mul,← he,signed_int] at this
   exact this
  rcases hc with ⟨g1,g2,g3⟩|⟨g1,g2,g3⟩
  ·rw [if_pos g1] at hr
   refine num _ _ _ _ hr ?_
   rw [← g2,show single.leastPlace = (j:Int) - (z:Int) from by omega]
   exact hv
  ·rw [if_neg (by omega),if_pos (by omega)] at hr
   refine num _ _ _ _ hr ?_
   rw [Nat.add_comm,← g2,show single.leastPlace+((ex - 1:Nat):Int) = (j:Int) - (z:Int) from by omega]
   exact hv
theorem gpos:(0:Int) < ((2 ^ gz:Nat):Int):=ppos gz
theorem signed_tdiv (s:Bool) (A:Nat):signed s (A / 2 ^ gz) 0 = (signed s A 0).tdiv ((2 ^ gz:Nat):Int):=by
 rw [signed_eq,signed_eq,Nat.pow_zero,Nat.mul_one,Nat.mul_one]
 cases s
 ·rw [if_neg (by decide),if_neg (by decide)]; exact (Int.ofNat_tdiv A (2 ^ gz)).symm
 ·rw [if_pos rfl,if_pos rfl,Int.neg_tdiv]; congr 1
theorem toInt_nv {b:Nat} {v:Int} (h:Nv b v) (h1:-9223372036854775808 * ((2 ^ gz:Nat):Int)≤v) (h2:v < 9223372036854775808 * ((2 ^ gz:Nat):Int)):floatToIntVal .f64 b .i64 = some (v.tdiv ((2 ^ gz:Nat):Int)):=by
 obtain ⟨s,m,i,hr,hi,rfl⟩:=h
 have e1:FloatKind.f64.decode b = .number s m i:=hr
 have ev:signed s m (i+gz).toNat = signed s (m * 2 ^ (i+gz).toNat) 0:=by rw [signed_mul,Nat.add_zero]
 rw [ev] at h1 h2 ⊢
 unfold floatToIntVal
 rw [e1,toInt_num s m i hi,signed_tdiv]
 obtain ⟨A,hA⟩:∃ A,signed s (m * 2 ^ (i+gz).toNat) 0 = A:=⟨_,rfl⟩
 rw [hA] at h1 h2 ⊢
 have hg:=gpos
 generalize ((2 ^ gz:Nat):Int) = G at h1 h2 hg ⊢
 have hb:-9223372036854775808≤A.tdiv G∧A.tdiv G≤9223372036854775807:=by
  rcases Int.lt_or_le A 0 with hn|hn
  ·have e:A.tdiv G = -((-A) / G):=by rw [← Int.tdiv_eq_ediv_of_nonneg (by omega),Int.neg_tdiv,Int.neg_neg]
   have u1:(-A) / G≤9223372036854775808:=Int.ediv_le_of_le_mul hg (by omega)
   have u2:0≤(-A) / G:=Int.ediv_nonneg (by omega) (by omega)
   omega
  ·rw [Int.tdiv_eq_ediv_of_nonneg hn]
   have u1:A / G < 9223372036854775808:=Int.ediv_lt_of_lt_mul hg h2
   have u2:0≤A / G:=Int.ediv_nonneg hn (by omega)
   omega
 show (if IntKind.i64.min≤A.tdiv G∧A.tdiv G≤IntKind.i64.max then some (A.tdiv G) else none) = _
 exact if_pos hb
theorem there_nv {a:Nat} {s:Bool} {m:Nat} {i:Int} (hr:double.read a = .number s m i) (hm:m < 2 ^ 53) (hi:-(gz:Int)≤i) (hi2:i≤971) {v k:Int} (hv:signed s m (i+gz).toNat = v) (hk:v.tdiv ((2 ^ gz:Nat):Int) = k) :
  Nv (floatOfInt .f64 k) (k * ((2 ^ gz:Nat):Int))∧Nv (double.write ((Datum.number s m i).integral .zero)) (k * ((2 ^ gz:Nat):Int))∧∃ r:Int,r = v - k * ((2 ^ gz:Nat):Int)∧r.natAbs < 2 ^ gz ∧
   (∃ D,double.sub a (floatOfInt .f64 k) = some D∧Nv D r)∧(∃ D,double.sub (floatOfInt .f64 k) a = some D∧Nv D (-r)):=by
 have hg:=gz_eq
 have hx:Nv a v:=⟨s,m,i,hr,hi,hv⟩
 obtain ⟨e,he⟩:∃ e,(i+gz).toNat = e:=⟨_,rfl⟩
 obtain ⟨A,hA⟩:∃ A,m * 2 ^ e = A:=⟨_,rfl⟩
 have ev:v = signed s A 0:=by rw [← hv,he,← hA,signed_mul,Nat.add_zero]
 have ek:k = signed s (A / 2 ^ gz) 0:=by rw [← hk,ev,signed_tdiv]
 obtain ⟨q,hq⟩:∃ q,A / 2 ^ gz = q:=⟨_,rfl⟩
 rw [hq] at ek
 have ekn:k.natAbs = q:=by rw [ek,signed_abs,Nat.pow_zero,Nat.mul_one]
 have hrep:Hid (0 < q→∃ o j kk,q = o * 2 ^ j∧0 < o∧Bl o kk∧kk≤53∧j+kk≤1024):=hide fun h0=>by
  by_cases hc:0≤i
  ·have e1:q = m * 2 ^ i.toNat:=by rw [← hq,← hA,show e = i.toNat+gz from by omega,Nat.pow_add,← Nat.mul_assoc,Nat.mul_div_cancel _ (pow_pos2 gz)]
   have hm0:0 < m:=by
    rcases Nat.eq_zero_or_pos m with h|h
    ·rw [h,Nat.zero_mul] at e1; omega
    ·exact h
   have:=(bl_blen m).le_of hm
   exact ⟨m,i.toNat,blen m,e1,hm0,bl_blen m,this,by omega⟩
  ·have e1:q≤m:=by
    rw [← hq,← hA,show gz = (-i).toNat+e from by omega,Nat.pow_add,Nat.mul_div_mul_right _ _ (pow_pos2 e)]
    exact Nat.div_le_self _ _
   have:=(bl_blen q).le_of (Nat.lt_of_le_of_lt e1 hm)
   exact ⟨q,0,blen q,by simp,h0,bl_blen q,this,by omega⟩
 have hy:Nv (floatOfInt .f64 k) (k * ((2 ^ gz:Nat):Int)):=by
  by_cases h0:q = 0
  ·have:k = 0:=by omega
   subst this; rw [Int.zero_mul]; exact int_nv0
  ·obtain ⟨o,j,kk,e1,e2,e3,e4,e5⟩:=unhide hrep (by omega)
   exact int_nv (by rw [ekn,e1]) e2 e3 e4 e5
 have hT:Nv (double.write ((Datum.number s m i).integral .zero)) (k * ((2 ^ gz:Nat):Int)):=by
  have e0:double.write ((Datum.number s m i).integral .zero) = double.nearest s q 0:=by
   have h1:=toInt_num s m i hi
   simp only [Datum.toInt,Datum.integral,Option.some.injEq] at h1
   have h2:∀ x y:Nat,signed s x 0 = signed s y 0→x = y:=fun x y h=>by
    have:=congrArg Int.natAbs h
    rw [signed_abs,signed_abs,Nat.pow_zero,Nat.mul_one,Nat.mul_one] at this
    exact this
   have h3:=h2 _ _ h1
   rw [he,hA,hq] at h3
   simp only [Datum.integral,Format.write,h3]
  have e9:k * ((2 ^ gz:Nat):Int) = signed s q gz:=by rw [ek,← signed_add,Nat.zero_add]
  rw [e0,e9]
  by_cases h0:q = 0
  ·rw [h0,signed_zero]; exact near_nv0 _ _
  ·obtain ⟨o,j,kk,e1,e2,e3,e4,e5⟩:=unhide hrep (by omega)
   have:=near_nv s o j kk 0 e2 e3 e4 (by omega) (by omega)
   rw [e1,signed_mul]
   rw [show (0+(j:Int)+gz).toNat = j+gz from by omega] at this
   exact this
 refine ⟨hy,hT,v - k * ((2 ^ gz:Nat):Int),rfl,?_⟩
 have hdm:=Nat.div_add_mod A (2 ^ gz)
 rw [hq,Nat.mul_comm] at hdm
 have hml:=Nat.mod_lt A (pow_pos2 gz)
 have er:v - k * ((2 ^ gz:Nat):Int) = signed s (A % 2 ^ gz) 0:=by
  rw [ev,ek,signed_eq,signed_eq,signed_eq,Nat.pow_zero,Nat.mul_one,Nat.mul_one,Nat.mul_one]
  have:((q * 2 ^ gz:Nat):Int) = (q:Int) * ((2 ^ gz:Nat):Int):=Int.natCast_mul _ _
  cases s
  ·rw [if_neg (by decide),if_neg (by decide),if_neg (by decide)]; omega
  ·rw [if_pos rfl,if_pos rfl,if_pos rfl,Int.neg_mul]; omega
 have hrn:(v - k * ((2 ^ gz:Nat):Int)).natAbs = A % 2 ^ gz:=by rw [er,signed_abs,Nat.pow_zero,Nat.mul_one]
 obtain ⟨o,i',ho,hi',hi2',hrep2⟩:∃ (o:Nat) (i':Int),o < 2 ^ 53∧-(gz:Int)≤i'∧i'≤971∧A % 2 ^ gz = o * 2 ^ (i'+gz).toNat:=by
  by_cases hc:0≤i
  ·refine ⟨0,i,by decide,hi,hi2,?_⟩
   rw [Nat.zero_mul,← hA,show e = i.toNat+gz from by omega,Nat.pow_add,← Nat.mul_assoc,Nat.mul_mod_left]
  ·refine ⟨m % 2 ^ (-i).toNat,i,Nat.lt_of_le_of_lt (Nat.mod_le _ _) hm,hi,hi2,?_⟩
   rw [he,← hA,show gz = (-i).toNat+e from by omega,Nat.pow_add,Nat.mul_mod_mul_right]
 refine ⟨by rw [hrn]; exact hml,sub_nv hx hy (by rw [hrn,hrep2]) ho hi' hi2',?_⟩
 have:=sub_nv hy hx (o:=o) (i:=i') (by rw [show k * ((2 ^ gz:Nat):Int) - v = -(v - k * ((2 ^ gz:Nat):Int)) from by omega,Int.natAbs_neg,hrn,hrep2]) ho hi' hi2'
 rw [show k * ((2 ^ gz:Nat):Int) - v = -(v - k * ((2 ^ gz:Nat):Int)) from by omega] at this
 exact this
theorem nv_two (s:Bool) (b c:Nat) (i:Int) (hr:double.read b = .number s (2 ^ 52) i) (hc:i+52 = (c:Int)):Nv b (signed s (2 ^ c) gz):=by
 have hg:=gz_eq
 refine ⟨s,2 ^ 52,i,hr,by omega,?_⟩
 rw [signed_eq,signed_eq,← Nat.pow_add,← Nat.pow_add,show 52+(i+gz).toNat = c+gz from by omega]
theorem nv_one:Nv 4607182418800017408 ((2 ^ gz:Nat):Int):=by
 have:=nv_two false 4607182418800017408 0 (-52) (by decide +kernel) (by decide)
 rw [signed_eq,if_neg (by decide),Nat.pow_zero,Nat.one_mul] at this
 exact this
theorem nv_m63:Nv 14114281232179134464 (-9223372036854775808 * ((2 ^ gz:Nat):Int)):=by
 have:=nv_two true 14114281232179134464 63 11 (by decide +kernel) (by decide)
 rw [signed_eq,if_pos rfl,Int.natCast_mul,← Int.neg_mul] at this
 exact this
theorem nv_63:Nv 4890909195324358656 (9223372036854775808 * ((2 ^ gz:Nat):Int)):=by
 have:=nv_two false 4890909195324358656 63 11 (by decide +kernel) (by decide)
 rw [signed_eq,if_neg (by decide),Int.natCast_mul] at this
 exact this
theorem nv_64:Nv 4895412794951729152 (18446744073709551616 * ((2 ^ gz:Nat):Int)):=by
 have:=nv_two false 4895412794951729152 64 12 (by decide +kernel) (by decide)
 rw [signed_eq,if_neg (by decide),Int.natCast_mul] at this
 exact this
theorem nv_0:Nv 0 0:=⟨false,0,-(gz:Int),by rw [← double_least]; decide +kernel,by omega,signed_zero _ _⟩
end Go.Proofs.YtbgafednekomhaaGreatDoor
