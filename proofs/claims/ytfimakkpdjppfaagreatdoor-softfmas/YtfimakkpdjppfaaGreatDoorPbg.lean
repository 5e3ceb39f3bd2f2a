/- Of what SoftFmasRow stands on: SfFlts SfNo SfOrd SfNo3. -/
import Derived.Test.YtfimakkpdjppfaaGreatDoorPbf
import Derived.Deep.OwnRows
namespace Go.Proofs.YtfimakkpdjppfaaGreatDoor
open Go.RowKit
set_option maxHeartbeats 4000000
set_option maxRecDepth 20000
theorem Tryz.info_flt:(Tryz.prog.info? 37).map (fun i=>(i.zero,i.size,i.bytes)) = some (some .nilIface,1,16):=by kernel_rfl
theorem Tryz.under_flts:Tryz.prog.underlying 35 = some (.slice 37):=by kernel_rfl
theorem make_fl3 (w:World):(Instr.makeSlice 35 (.int .i64 3) (.int .i64 3)).run Tryz.prog w = .ok (.slice (some ⟨w.heap.size,0,none⟩) 3 3) (w.alloc (.cells #[.nilIface,.nilIface,.nilIface] 37)):=by
 have h:=run_make_row' (P:=Tryz.prog) 35 37 .nilIface 16 Tryz.under_flts Tryz.info_flt rfl .i64 .i64 3 (by decide) (by decide) w
 rw [show madeCells #[Value.nilIface] 3 = #[.nilIface,.nilIface,.nilIface] from Array.toList_inj.1 (by rw [toList_madeCells_one]; rfl)] at h
 exact h
def Fls3 (B:Nat) (k0 k1 k2:Kd) (e:Ending) (w':World):Prop:=∃ q t0 x0 t1 x1 t2 x2,e = .returned (.slice (some ⟨q,0,none⟩) 3 3)∧B≤q∧w'.heap[q]? = some (.cells #[.iface t0 x0,.iface t1 x1,.iface t2 x2] 37 (0,0))∧Flt w' (q+1) (.iface t0 x0) k0∧Flt w' (q+1) (.iface t1 x1) k1∧Flt w' (q+1) (.iface t2 x2) k2
theorem floatsOf3 (E F:Int) (p:Nat) (b0 b1 b2:Int) (k0 k1 k2:Kd) (H0:Hid (FlOf E F b0 k0)) (H1:Hid (FlOf E F b1 k1)) (H2:Hid (FlOf E F b2 k2)) (w:World) (hT:Tb w) (hp:w.heap[p]? = some (.cells #[.int .u64 b0,.int .u64 b1,.int .u64 b2] 24 (0,0))) :
  Calls Tryz.prog 19 #[.agg #[.int .i64 E,.int .i64 F],.slice (some ⟨p,0,none⟩) 3 3] w fun e w'=>Fls3 w.heap.size k0 k1 k2 e w'∧Below w.heap.size w w':=by
 have HT:=hide hT
 clear hT
 go_enter Tryz.func19,Tryz.ntmps19
 have hS0:Fs w w [⟨p,#[.int .u64 b0,.int .u64 b1,.int .u64 b2],24⟩]:=⟨fun x hx=>by rcases List.mem_cons.1 hx with rfl|hx; exact hp; exact absurd hx List.not_mem_nil,Below.refl _ _⟩
 have hlp:p < w.heap.size:=block_lt hp
 have hS:=(hS0.alloc #[.int .i64 E,.int .i64 F] 23).alloc #[.nilIface,.nilIface,.nilIface] 37
 simp only [World.size_alloc] at hS
 clear hS0 hp
 have hmk:=make_fl3
 obtain ⟨WV,hWV⟩:∃ x,(w.alloc (.cells #[.int .i64 E,.int .i64 F] 23)).alloc (.cells #[.nilIface,.nilIface,.nilIface] 37) = x:=⟨_,rfl⟩
 rw [hWV] at hS
 obtain ⟨⟨ya,yb,yc,-⟩,⟨yd,ye,-⟩,⟨yf,yg,yh,-⟩,-⟩:=hS.cells
 go_wp2
 clear hmk
 refine wp_loop_rounds 4 ?_
 rw [rounds_succ]
 have hlt0:w.heap.size+1 < WV.heap.size:=block_lt (hS.bx ⟨w.heap.size+1,#[.nilIface,.nilIface,.nilIface],37⟩ (by simp))
 go_wp2_with fail
 refine (unhide H0 _ ((unhide HT).kept hS.fr)).mono ?_
 rintro e w1 ⟨⟨t0,x0,rfl,f0⟩,hb1⟩
 replace hS:=hS.kept hb1
 clear ya yb yc yd ye yf yg yh
 obtain ⟨⟨yi,yj,yk,-⟩,⟨yl,ym,-⟩,⟨yn,yo,yp,-⟩,-⟩:=hS.cells
 have G0:=hide (f0.mono (B':=w.heap.size+2) hlt0)
 clear f0 hlt0
 obtain ⟨WS0,hWS0⟩:∃ x,w1.setCell ⟨w.heap.size+1,0,none⟩ (.iface t0 x0) = x:=⟨_,rfl⟩
 have fzWS0:=hS.frozen (b:=w.heap.size+1) (cs:=#[.nilIface,.nilIface,.nilIface]) (t:=37) (by simp) 0
 go_wp2
 replace hS:=hS.put (b:=w.heap.size+1) (cs:=#[.nilIface,.nilIface,.nilIface]) (t:=37) (by simp) (by simp) 0 (.iface t0 x0) [⟨w.heap.size+1,#[.iface t0 x0,.nilIface,.nilIface],37⟩,⟨w.heap.size,#[.int .i64 E,.int .i64 F],23⟩,⟨p,#[.int .u64 b0,.int .u64 b1,.int .u64 b2],24⟩] (by simp <;> omega)
 rw [hWS0] at hS
 replace G0:=hide (hWS0▸(unhide G0).set (p:=⟨w.heap.size+1,0,none⟩) (by show w.heap.size+1 < w.heap.size+2; omega) (.iface t0 x0))
 clear yi yj yk yl ym yn yo yp
 clear fzWS0
 obtain ⟨⟨yq,yr,ys,-⟩,⟨yt,yu,-⟩,⟨yv,yw,yx,-⟩,-⟩:=hS.cells
 rw [rounds_succ]
 have hlt1:w.heap.size+1 < WS0.heap.size:=block_lt (hS.bx ⟨w.heap.size+1,#[.iface t0 x0,.nilIface,.nilIface],37⟩ (by simp))
 go_wp2_with fail
 refine (unhide H1 _ ((unhide HT).kept hS.fr)).mono ?_
 rintro e w2 ⟨⟨t1,x1,rfl,f1⟩,hb2⟩
 replace hS:=hS.kept hb2
 clear yq yr ys yt yu yv yw yx
 obtain ⟨⟨yy,yz,y0,-⟩,⟨y1,y2,-⟩,⟨y3,y4,y5,-⟩,-⟩:=hS.cells
 replace G0:=hide ((unhide G0).kept hb2)
 have G1:=hide (f1.mono (B':=w.heap.size+2) hlt1)
 clear f1 hlt1
 obtain ⟨WS1,hWS1⟩:∃ x,w2.setCell ⟨w.heap.size+1,1,none⟩ (.iface t1 x1) = x:=⟨_,rfl⟩
 have fzWS1:=hS.frozen (b:=w.heap.size+1) (cs:=#[.iface t0 x0,.nilIface,.nilIface]) (t:=37) (by simp) 1
 go_wp2
 replace hS:=hS.put (b:=w.heap.size+1) (cs:=#[.iface t0 x0,.nilIface,.nilIface]) (t:=37) (by simp) (by simp) 1 (.iface t1 x1) [⟨w.heap.size+1,#[.iface t0 x0,.iface t1 x1,.nilIface],37⟩,⟨w.heap.size,#[.int .i64 E,.int .i64 F],23⟩,⟨p,#[.int .u64 b0,.int .u64 b1,.int .u64 b2],24⟩] (by simp <;> omega)
 rw [hWS1] at hS
 replace G0:=hide (hWS1▸(unhide G0).set (p:=⟨w.heap.size+1,1,none⟩) (by show w.heap.size+1 < w.heap.size+2; omega) (.iface t1 x1))
 replace G1:=hide (hWS1▸(unhide G1).set (p:=⟨w.heap.size+1,1,none⟩) (by show w.heap.size+1 < w.heap.size+2; omega) (.iface t1 x1))
 clear yy yz y0 y1 y2 y3 y4 y5
 clear fzWS1
 obtain ⟨⟨y6,y7,y8,-⟩,⟨y9,yba,-⟩,⟨ybb,ybc,ybd,-⟩,-⟩:=hS.cells
 rw [rounds_succ]
 have hlt2:w.heap.size+1 < WS1.heap.size:=block_lt (hS.bx ⟨w.heap.size+1,#[.iface t0 x0,.iface t1 x1,.nilIface],37⟩ (by simp))
 go_wp2_with fail
 refine (unhide H2 _ ((unhide HT).kept hS.fr)).mono ?_
 rintro e w3 ⟨⟨t2,x2,rfl,f2⟩,hb3⟩
 replace hS:=hS.kept hb3
 clear y6 y7 y8 y9 yba ybb ybc ybd
 obtain ⟨⟨ybe,ybf,ybg,-⟩,⟨ybh,ybi,-⟩,⟨ybj,ybk,ybl,-⟩,-⟩:=hS.cells
 replace G0:=hide ((unhide G0).kept hb3)
 replace G1:=hide ((unhide G1).kept hb3)
 have G2:=hide (f2.mono (B':=w.heap.size+2) hlt2)
 clear f2 hlt2
 obtain ⟨WS2,hWS2⟩:∃ x,w3.setCell ⟨w.heap.size+1,2,none⟩ (.iface t2 x2) = x:=⟨_,rfl⟩
 have fzWS2:=hS.frozen (b:=w.heap.size+1) (cs:=#[.iface t0 x0,.iface t1 x1,.nilIface]) (t:=37) (by simp) 2
 go_wp2
 replace hS:=hS.put (b:=w.heap.size+1) (cs:=#[.iface t0 x0,.iface t1 x1,.nilIface]) (t:=37) (by simp) (by simp) 2 (.iface t2 x2) [⟨w.heap.size+1,#[.iface t0 x0,.iface t1 x1,.iface t2 x2],37⟩,⟨w.heap.size,#[.int .i64 E,.int .i64 F],23⟩,⟨p,#[.int .u64 b0,.int .u64 b1,.int .u64 b2],24⟩] (by simp <;> omega)
 rw [hWS2] at hS
 replace G0:=hide (hWS2▸(unhide G0).set (p:=⟨w.heap.size+1,2,none⟩) (by show w.heap.size+1 < w.heap.size+2; omega) (.iface t2 x2))
 replace G1:=hide (hWS2▸(unhide G1).set (p:=⟨w.heap.size+1,2,none⟩) (by show w.heap.size+1 < w.heap.size+2; omega) (.iface t2 x2))
 replace G2:=hide (hWS2▸(unhide G2).set (p:=⟨w.heap.size+1,2,none⟩) (by show w.heap.size+1 < w.heap.size+2; omega) (.iface t2 x2))
 clear ybe ybf ybg ybh ybi ybj ybk ybl
 clear fzWS2
 obtain ⟨⟨ybm,ybn,ybo,-⟩,⟨ybp,ybq,-⟩,⟨ybr,ybs,ybt,-⟩,-⟩:=hS.cells
 rw [rounds_succ]
 go_wp2
 go_ret
 exact ⟨⟨_,t0,x0,t1,x1,t2,x2,rfl,by omega,hS.bx ⟨w.heap.size+1,#[.iface t0 x0,.iface t1 x1,.iface t2 x2],37⟩ (by simp),unhide G0,unhide G1,unhide G2⟩,hS.fr⟩
theorem run_as {T t:TypeId} {z v:Value} (hu:(Tryz.prog.underlying T).map (fun u=>match u with|.interface _=>false|_=>true) = some true) (hz:(Tryz.prog.info? T).map (·.zero) = some (some z)) (ht:t≠T) (xT:TypeId) (w:World) :
  (Instr.typeAssert (.iface t v) xT T true).run Tryz.prog w = .ok (.tuple #[z,.bool false]) w:=by
 obtain ⟨j,hj,hz'⟩:=Option.map_eq_some_iff.1 hz
 obtain ⟨u,hu1,hu2⟩:=Option.map_eq_some_iff.1 hu
 cases u <;> first|(exact Bool.noConfusion hu2)|simp [Instr.typeAssert,run_underlying hu1,zeroValue,typeInfo,hj,hz',ht]
theorem run_as_self {T:TypeId} {v:Value} (hu:(Tryz.prog.underlying T).map (fun u=>match u with|.interface _=>false|_=>true) = some true) (xT:TypeId) (w:World) :
  (Instr.typeAssert (.iface T v) xT T true).run Tryz.prog w = .ok (.tuple #[v,.bool true]) w:=by
 obtain ⟨u,hu1,hu2⟩:=Option.map_eq_some_iff.1 hu
 cases u <;> first|(exact Bool.noConfusion hu2)|simp [Instr.typeAssert,run_underlying hu1]
theorem as_none {t:TypeId} {v:Value} (ht:t≠65) (xT:TypeId) (w:World):(Instr.typeAssert (.iface t v) xT 65 true).run Tryz.prog w = .ok (.tuple #[.agg #[.int .u8 0],.bool false]) w:=run_as (by kernel_rfl) (by kernel_rfl) ht xT w
theorem as_none_self {v:Value} (xT:TypeId) (w:World):(Instr.typeAssert (.iface 65 v) xT 65 true).run Tryz.prog w = .ok (.tuple #[v,.bool true]) w:=run_as_self (by kernel_rfl) xT w
theorem noNumber3_nnn (q:Nat) (l0 g0:Int) (l1 g1:Int) (l2 g2:Int) (o0:Go.bits .or .u8 0 l0 = g0) (o1:Go.bits .or .u8 g0 l1 = g1) (o2:Go.bits .or .u8 g1 l2 = g2) (w:World) (hq:w.heap[q]? = some (.cells #[.iface 65 (.agg #[.int .u8 l0]),.iface 65 (.agg #[.int .u8 l1]),.iface 65 (.agg #[.int .u8 l2])] 37 (0,0))) :
  Calls Tryz.prog 20 #[.slice (some ⟨q,0,none⟩) 3 3] w fun e w'=>e = .returned (.tuple #[.agg #[.int .u8 g2],.bool true])∧Below w.heap.size w w':=by
 go_enter Tryz.func20,Tryz.ntmps20
 have hS0:Fs w w [⟨q,#[.iface 65 (.agg #[.int .u8 l0]),.iface 65 (.agg #[.int .u8 l1]),.iface 65 (.agg #[.int .u8 l2])],37⟩]:=⟨fun x hx=>by rcases List.mem_cons.1 hx with rfl|hx; exact hq; exact absurd hx List.not_mem_nil,Below.refl _ _⟩
 have hlq:q < w.heap.size:=block_lt hq
 have hS:=hS0.alloc #[.int .u8 0] 65
 clear hS0 hq
 obtain ⟨⟨ya,-⟩,⟨yb,yc,yd,-⟩,-⟩:=hS.cells
 have ha0:=as_none_self (v:=.agg #[.int .u8 l0]) 37
 have ha1:=as_none_self (v:=.agg #[.int .u8 l1]) 37
 have ha2:=as_none_self (v:=.agg #[.int .u8 l2]) 37
 obtain ⟨WB,hWB⟩:∃ x,w.alloc (.cells #[.int .u8 0] 65) = x:=⟨_,rfl⟩
 rw [hWB] at hS ya yb yc yd
 go_wp2
 refine wp_loop_rounds 4 ?_
 rw [rounds_succ]
 have hltWB_0:w.heap.size < WB.heap.size:=hS.lt 0 rfl
 have hltWB_1:q < WB.heap.size:=hS.lt 1 rfl
 obtain ⟨WV0,hWV0⟩:∃ WV0,WB.alloc (.cells #[.int .u8 l0] 65) = WV0:=⟨_,rfl⟩
 replace hS:=hS.alloc #[.int .u8 l0] 65
 rw [hWV0] at hS
 obtain ⟨⟨ye,-⟩,⟨yf,-⟩,⟨yg,yh,yi,-⟩,-⟩:=hS.cells
 obtain ⟨WS0,hWS0⟩:∃ x,WV0.setCell ⟨w.heap.size,0,none⟩ (.int .u8 g0) = x:=⟨_,rfl⟩
 have fzWS0:=hS.frozen (b:=w.heap.size) (cs:=#[.int .u8 0]) (t:=65) (by simp) 0
 go_wp2
 replace hS:=hS.put (b:=w.heap.size) (cs:=#[.int .u8 0]) (t:=65) (by simp) (by simp) 0 (.int .u8 g0) [⟨WB.heap.size,#[.int .u8 l0],65⟩,⟨w.heap.size,#[.int .u8 g0],65⟩,⟨q,#[.iface 65 (.agg #[.int .u8 l0]),.iface 65 (.agg #[.int .u8 l1]),.iface 65 (.agg #[.int .u8 l2])],37⟩] (by simp <;> omega)
 rw [hWS0] at hS
 clear ye yf yg yh yi ya yb yc yd
 clear fzWS0
 obtain ⟨⟨yj,-⟩,⟨yk,-⟩,⟨yl,ym,yn,-⟩,-⟩:=hS.cells
 rw [rounds_succ]
 have hltWS0_0:WB.heap.size < WS0.heap.size:=hS.lt 0 rfl
 have hltWS0_1:w.heap.size < WS0.heap.size:=hS.lt 1 rfl
 have hltWS0_2:q < WS0.heap.size:=hS.lt 2 rfl
 obtain ⟨WV1,hWV1⟩:∃ WV1,WS0.alloc (.cells #[.int .u8 l1] 65) = WV1:=⟨_,rfl⟩
 replace hS:=hS.alloc #[.int .u8 l1] 65
 rw [hWV1] at hS
 obtain ⟨⟨yo,-⟩,⟨yp,-⟩,⟨yq,-⟩,⟨yr,ys,yt,-⟩,-⟩:=hS.cells
 obtain ⟨WS1,hWS1⟩:∃ x,WV1.setCell ⟨w.heap.size,0,none⟩ (.int .u8 g1) = x:=⟨_,rfl⟩
 have fzWS1:=hS.frozen (b:=w.heap.size) (cs:=#[.int .u8 g0]) (t:=65) (by simp) 0
 go_wp2
 replace hS:=hS.put (b:=w.heap.size) (cs:=#[.int .u8 g0]) (t:=65) (by simp) (by simp) 0 (.int .u8 g1) [⟨WS0.heap.size,#[.int .u8 l1],65⟩,⟨WB.heap.size,#[.int .u8 l0],65⟩,⟨w.heap.size,#[.int .u8 g1],65⟩,⟨q,#[.iface 65 (.agg #[.int .u8 l0]),.iface 65 (.agg #[.int .u8 l1]),.iface 65 (.agg #[.int .u8 l2])],37⟩] (by simp <;> omega)
 rw [hWS1] at hS
 clear yo yp yq yr ys yt yj yk yl ym yn
 clear fzWS1
 obtain ⟨⟨yu,-⟩,⟨yv,-⟩,⟨yw,-⟩,⟨yx,yy,yz,-⟩,-⟩:=hS.cells
 rw [rounds_succ]
 have hltWS1_0:WS0.heap.size < WS1.heap.size:=hS.lt 0 rfl
 have hltWS1_1:WB.heap.size < WS1.heap.size:=hS.lt 1 rfl
 have hltWS1_2:w.heap.size < WS1.heap.size:=hS.lt 2 rfl
 have hltWS1_3:q < WS1.heap.size:=hS.lt 3 rfl
 obtain ⟨WV2,hWV2⟩:∃ WV2,WS1.alloc (.cells #[.int .u8 l2] 65) = WV2:=⟨_,rfl⟩
 replace hS:=hS.alloc #[.int .u8 l2] 65
 rw [hWV2] at hS
 obtain ⟨⟨y0,-⟩,⟨y1,-⟩,⟨y2,-⟩,⟨y3,-⟩,⟨y4,y5,y6,-⟩,-⟩:=hS.cells
 obtain ⟨WS2,hWS2⟩:∃ x,WV2.setCell ⟨w.heap.size,0,none⟩ (.int .u8 g2) = x:=⟨_,rfl⟩
 have fzWS2:=hS.frozen (b:=w.heap.size) (cs:=#[.int .u8 g1]) (t:=65) (by simp) 0
 go_wp2
 replace hS:=hS.put (b:=w.heap.size) (cs:=#[.int .u8 g1]) (t:=65) (by simp) (by simp) 0 (.int .u8 g2) [⟨WS1.heap.size,#[.int .u8 l2],65⟩,⟨WS0.heap.size,#[.int .u8 l1],65⟩,⟨WB.heap.size,#[.int .u8 l0],65⟩,⟨w.heap.size,#[.int .u8 g2],65⟩,⟨q,#[.iface 65 (.agg #[.int .u8 l0]),.iface 65 (.agg #[.int .u8 l1]),.iface 65 (.agg #[.int .u8 l2])],37⟩] (by simp <;> omega)
 rw [hWS2] at hS
 clear y0 y1 y2 y3 y4 y5 y6 yu yv yw yx yy yz
 clear fzWS2
 obtain ⟨⟨y7,-⟩,⟨y8,-⟩,⟨y9,-⟩,⟨yba,-⟩,⟨ybb,ybc,ybd,-⟩,-⟩:=hS.cells
 rw [rounds_succ]
 have fz0:=hS.frozen (b:=w.heap.size) (cs:=#[.int .u8 g2]) (t:=65) (by simp) 0
 go_wp2
 exact bodyPost_ret (v:=.tuple #[.agg #[.int .u8 g2],.bool true]) (by simp [results,Tryz.results20,go_sem,yba]) rfl ⟨rfl,hS.fr.setCell (by simp) _⟩
theorem noNumber3_nno (q:Nat) (l0 g0:Int) (l1 g1:Int) (t2:TypeId) (x2:Value) (o0:Go.bits .or .u8 0 l0 = g0) (o1:Go.bits .or .u8 g0 l1 = g1) (o2:t2≠65) (w:World) (hq:w.heap[q]? = some (.cells #[.iface 65 (.agg #[.int .u8 l0]),.iface 65 (.agg #[.int .u8 l1]),.iface t2 x2] 37 (0,0))) :
  Calls Tryz.prog 20 #[.slice (some ⟨q,0,none⟩) 3 3] w fun e w'=>e = .returned (.tuple #[.agg #[.int .u8 g1],.bool true])∧Below w.heap.size w w':=by
 go_enter Tryz.func20,Tryz.ntmps20
 have hS0:Fs w w [⟨q,#[.iface 65 (.agg #[.int .u8 l0]),.iface 65 (.agg #[.int .u8 l1]),.iface t2 x2],37⟩]:=⟨fun x hx=>by rcases List.mem_cons.1 hx with rfl|hx; exact hq; exact absurd hx List.not_mem_nil,Below.refl _ _⟩
 have hlq:q < w.heap.size:=block_lt hq
 have hS:=hS0.alloc #[.int .u8 0] 65
 clear hS0 hq
 obtain ⟨⟨ya,-⟩,⟨yb,yc,yd,-⟩,-⟩:=hS.cells
 have ha0:=as_none_self (v:=.agg #[.int .u8 l0]) 37
 have ha1:=as_none_self (v:=.agg #[.int .u8 l1]) 37
 have ha2:=as_none (v:=x2) o2 37
 obtain ⟨WB,hWB⟩:∃ x,w.alloc (.cells #[.int .u8 0] 65) = x:=⟨_,rfl⟩
 rw [hWB] at hS ya yb yc yd
 go_wp2
 refine wp_loop_rounds 4 ?_
 rw [rounds_succ]
 have hltWB_0:w.heap.size < WB.heap.size:=hS.lt 0 rfl
 have hltWB_1:q < WB.heap.size:=hS.lt 1 rfl
 obtain ⟨WV0,hWV0⟩:∃ WV0,WB.alloc (.cells #[.int .u8 l0] 65) = WV0:=⟨_,rfl⟩
 replace hS:=hS.alloc #[.int .u8 l0] 65
 rw [hWV0] at hS
 obtain ⟨⟨ye,-⟩,⟨yf,-⟩,⟨yg,yh,yi,-⟩,-⟩:=hS.cells
 obtain ⟨WS0,hWS0⟩:∃ x,WV0.setCell ⟨w.heap.size,0,none⟩ (.int .u8 g0) = x:=⟨_,rfl⟩
 have fzWS0:=hS.frozen (b:=w.heap.size) (cs:=#[.int .u8 0]) (t:=65) (by simp) 0
 go_wp2
 replace hS:=hS.put (b:=w.heap.size) (cs:=#[.int .u8 0]) (t:=65) (by simp) (by simp) 0 (.int .u8 g0) [⟨WB.heap.size,#[.int .u8 l0],65⟩,⟨w.heap.size,#[.int .u8 g0],65⟩,⟨q,#[.iface 65 (.agg #[.int .u8 l0]),.iface 65 (.agg #[.int .u8 l1]),.iface t2 x2],37⟩] (by simp <;> omega)
 rw [hWS0] at hS
 clear ye yf yg yh yi ya yb yc yd
 clear fzWS0
 obtain ⟨⟨yj,-⟩,⟨yk,-⟩,⟨yl,ym,yn,-⟩,-⟩:=hS.cells
 rw [rounds_succ]
 have hltWS0_0:WB.heap.size < WS0.heap.size:=hS.lt 0 rfl
 have hltWS0_1:w.heap.size < WS0.heap.size:=hS.lt 1 rfl
 have hltWS0_2:q < WS0.heap.size:=hS.lt 2 rfl
 obtain ⟨WV1,hWV1⟩:∃ WV1,WS0.alloc (.cells #[.int .u8 l1] 65) = WV1:=⟨_,rfl⟩
 replace hS:=hS.alloc #[.int .u8 l1] 65
 rw [hWV1] at hS
 obtain ⟨⟨yo,-⟩,⟨yp,-⟩,⟨yq,-⟩,⟨yr,ys,yt,-⟩,-⟩:=hS.cells
 obtain ⟨WS1,hWS1⟩:∃ x,WV1.setCell ⟨w.heap.size,0,none⟩ (.int .u8 g1) = x:=⟨_,rfl⟩
 have fzWS1:=hS.frozen (b:=w.heap.size) (cs:=#[.int .u8 g0]) (t:=65) (by simp) 0
 go_wp2
 replace hS:=hS.put (b:=w.heap.size) (cs:=#[.int .u8 g0]) (t:=65) (by simp) (by simp) 0 (.int .u8 g1) [⟨WS0.heap.size,#[.int .u8 l1],65⟩,⟨WB.heap.size,#[.int .u8 l0],65⟩,⟨w.heap.size,#[.int .u8 g1],65⟩,⟨q,#[.iface 65 (.agg #[.int .u8 l0]),.iface 65 (.agg #[.int .u8 l1]),.iface t2 x2],37⟩] (by simp <;> omega)
 rw [hWS1] at hS
 clear yo yp yq yr ys yt yj yk yl ym yn
 clear fzWS1
 obtain ⟨⟨yu,-⟩,⟨yv,-⟩,⟨yw,-⟩,⟨yx,yy,yz,-⟩,-⟩:=hS.cells
 rw [rounds_succ]
 go_wp2
 rw [rounds_succ]
 have fz0:=hS.frozen (b:=w.heap.size) (cs:=#[.int .u8 g1]) (t:=65) (by simp) 0
 go_wp2
 exact bodyPost_ret (v:=.tuple #[.agg #[.int .u8 g1],.bool true]) (by simp [results,Tryz.results20,go_sem,yw]) rfl ⟨rfl,hS.fr.setCell (by simp) _⟩
theorem noNumber3_non (q:Nat) (l0 g0:Int) (t1:TypeId) (x1:Value) (l2 g2:Int) (o0:Go.bits .or .u8 0 l0 = g0) (o1:t1≠65) (o2:Go.bits .or .u8 g0 l2 = g2) (w:World) (hq:w.heap[q]? = some (.cells #[.iface 65 (.agg #[.int .u8 l0]),.iface t1 x1,.iface 65 (.agg #[.int .u8 l2])] 37 (0,0))) :
  Calls Tryz.prog 20 #[.slice (some ⟨q,0,none⟩) 3 3] w fun e w'=>e = .returned (.tuple #[.agg #[.int .u8 g2],.bool true])∧Below w.heap.size w w':=by
 go_enter Tryz.func20,Tryz.ntmps20
 have hS0:Fs w w [⟨q,#[.iface 65 (.agg #[.int .u8 l0]),.iface t1 x1,.iface 65 (.agg #[.int .u8 l2])],37⟩]:=⟨fun x hx=>by rcases List.mem_cons.1 hx with rfl|hx; exact hq; exact absurd hx List.not_mem_nil,Below.refl _ _⟩
 have hlq:q < w.heap.size:=block_lt hq
 have hS:=hS0.alloc #[.int .u8 0] 65
 clear hS0 hq
 obtain ⟨⟨ya,-⟩,⟨yb,yc,yd,-⟩,-⟩:=hS.cells
 have ha0:=as_none_self (v:=.agg #[.int .u8 l0]) 37
 have ha1:=as_none (v:=x1) o1 37
 have ha2:=as_none_self (v:=.agg #[.int .u8 l2]) 37
 obtain ⟨WB,hWB⟩:∃ x,w.alloc (.cells #[.int .u8 0] 65) = x:=⟨_,rfl⟩
 rw [hWB] at hS ya yb yc yd
 go_wp2
 refine wp_loop_rounds 4 ?_
 rw [rounds_succ]
 have hltWB_0:w.heap.size < WB.heap.size:=hS.lt 0 rfl
 have hltWB_1:q < WB.heap.size:=hS.lt 1 rfl
 obtain ⟨WV0,hWV0⟩:∃ WV0,WB.alloc (.cells #[.int .u8 l0] 65) = WV0:=⟨_,rfl⟩
 replace hS:=hS.alloc #[.int .u8 l0] 65
 rw [hWV0] at hS
 obtain ⟨⟨ye,-⟩,⟨yf,-⟩,⟨yg,yh,yi,-⟩,-⟩:=hS.cells
 obtain ⟨WS0,hWS0⟩:∃ x,WV0.setCell ⟨w.heap.size,0,none⟩ (.int .u8 g0) = x:=⟨_,rfl⟩
 have fzWS0:=hS.frozen (b:=w.heap.size) (cs:=#[.int .u8 0]) (t:=65) (by simp) 0
 go_wp2
 replace hS:=hS.put (b:=w.heap.size) (cs:=#[.int .u8 0]) (t:=65) (by simp) (by simp) 0 (.int .u8 g0) [⟨WB.heap.size,#[.int .u8 l0],65⟩,⟨w.heap.size,#[.int .u8 g0],65⟩,⟨q,#[.iface 65 (.agg #[.int .u8 l0]),.iface t1 x1,.iface 65 (.agg #[.int .u8 l2])],37⟩] (by simp <;> omega)
 rw [hWS0] at hS
 clear ye yf yg yh yi ya yb yc yd
 clear fzWS0
 obtain ⟨⟨yj,-⟩,⟨yk,-⟩,⟨yl,ym,yn,-⟩,-⟩:=hS.cells
 rw [rounds_succ]
 go_wp2
 rw [rounds_succ]
 have hltWS0_0:WB.heap.size < WS0.heap.size:=hS.lt 0 rfl
 have hltWS0_1:w.heap.size < WS0.heap.size:=hS.lt 1 rfl
 have hltWS0_2:q < WS0.heap.size:=hS.lt 2 rfl
 obtain ⟨WV2,hWV2⟩:∃ WV2,WS0.alloc (.cells #[.int .u8 l2] 65) = WV2:=⟨_,rfl⟩
 replace hS:=hS.alloc #[.int .u8 l2] 65
 rw [hWV2] at hS
 obtain ⟨⟨yo,-⟩,⟨yp,-⟩,⟨yq,-⟩,⟨yr,ys,yt,-⟩,-⟩:=hS.cells
 obtain ⟨WS2,hWS2⟩:∃ x,WV2.setCell ⟨w.heap.size,0,none⟩ (.int .u8 g2) = x:=⟨_,rfl⟩
 have fzWS2:=hS.frozen (b:=w.heap.size) (cs:=#[.int .u8 g0]) (t:=65) (by simp) 0
 go_wp2
 replace hS:=hS.put (b:=w.heap.size) (cs:=#[.int .u8 g0]) (t:=65) (by simp) (by simp) 0 (.int .u8 g2) [⟨WS0.heap.size,#[.int .u8 l2],65⟩,⟨WB.heap.size,#[.int .u8 l0],65⟩,⟨w.heap.size,#[.int .u8 g2],65⟩,⟨q,#[.iface 65 (.agg #[.int .u8 l0]),.iface t1 x1,.iface 65 (.agg #[.int .u8 l2])],37⟩] (by simp <;> omega)
 rw [hWS2] at hS
 clear yo yp yq yr ys yt yj yk yl ym yn
 clear fzWS2
 obtain ⟨⟨yu,-⟩,⟨yv,-⟩,⟨yw,-⟩,⟨yx,yy,yz,-⟩,-⟩:=hS.cells
 rw [rounds_succ]
 have fz0:=hS.frozen (b:=w.heap.size) (cs:=#[.int .u8 g2]) (t:=65) (by simp) 0
 go_wp2
 exact bodyPost_ret (v:=.tuple #[.agg #[.int .u8 g2],.bool true]) (by simp [results,Tryz.results20,go_sem,yw]) rfl ⟨rfl,hS.fr.setCell (by simp) _⟩
theorem noNumber3_noo (q:Nat) (l0 g0:Int) (t1:TypeId) (x1:Value) (t2:TypeId) (x2:Value) (o0:Go.bits .or .u8 0 l0 = g0) (o1:t1≠65) (o2:t2≠65) (w:World) (hq:w.heap[q]? = some (.cells #[.iface 65 (.agg #[.int .u8 l0]),.iface t1 x1,.iface t2 x2] 37 (0,0))) :
  Calls Tryz.prog 20 #[.slice (some ⟨q,0,none⟩) 3 3] w fun e w'=>e = .returned (.tuple #[.agg #[.int .u8 g0],.bool true])∧Below w.heap.size w w':=by
 go_enter Tryz.func20,Tryz.ntmps20
 have hS0:Fs w w [⟨q,#[.iface 65 (.agg #[.int .u8 l0]),.iface t1 x1,.iface t2 x2],37⟩]:=⟨fun x hx=>by rcases List.mem_cons.1 hx with rfl|hx; exact hq; exact absurd hx List.not_mem_nil,Below.refl _ _⟩
 have hlq:q < w.heap.size:=block_lt hq
 have hS:=hS0.alloc #[.int .u8 0] 65
 clear hS0 hq
 obtain ⟨⟨ya,-⟩,⟨yb,yc,yd,-⟩,-⟩:=hS.cells
 have ha0:=as_none_self (v:=.agg #[.int .u8 l0]) 37
 have ha1:=as_none (v:=x1) o1 37
 have ha2:=as_none (v:=x2) o2 37
 obtain ⟨WB,hWB⟩:∃ x,w.alloc (.cells #[.int .u8 0] 65) = x:=⟨_,rfl⟩
 rw [hWB] at hS ya yb yc yd
 go_wp2
 refine wp_loop_rounds 4 ?_
 rw [rounds_succ]
 have hltWB_0:w.heap.size < WB.heap.size:=hS.lt 0 rfl
 have hltWB_1:q < WB.heap.size:=hS.lt 1 rfl
 obtain ⟨WV0,hWV0⟩:∃ WV0,WB.alloc (.cells #[.int .u8 l0] 65) = WV0:=⟨_,rfl⟩
 replace hS:=hS.alloc #[.int .u8 l0] 65
 rw [hWV0] at hS
 obtain ⟨⟨ye,-⟩,⟨yf,-⟩,⟨yg,yh,yi,-⟩,-⟩:=hS.cells
 obtain ⟨WS0,hWS0⟩:∃ x,WV0.setCell ⟨w.heap.size,0,none⟩ (.int .u8 g0) = x:=⟨_,rfl⟩
 have fzWS0:=hS.frozen (b:=w.heap.size) (cs:=#[.int .u8 0]) (t:=65) (by simp) 0
 go_wp2
 replace hS:=hS.put (b:=w.heap.size) (cs:=#[.int .u8 0]) (t:=65) (by simp) (by simp) 0 (.int .u8 g0) [⟨WB.heap.size,#[.int .u8 l0],65⟩,⟨w.heap.size,#[.int .u8 g0],65⟩,⟨q,#[.iface 65 (.agg #[.int .u8 l0]),.iface t1 x1,.iface t2 x2],37⟩] (by simp <;> omega)
 rw [hWS0] at hS
 clear ye yf yg yh yi ya yb yc yd
 clear fzWS0
 obtain ⟨⟨yj,-⟩,⟨yk,-⟩,⟨yl,ym,yn,-⟩,-⟩:=hS.cells
 rw [rounds_succ]
 go_wp2
 rw [rounds_succ]
 go_wp2
 rw [rounds_succ]
 have fz0:=hS.frozen (b:=w.heap.size) (cs:=#[.int .u8 g0]) (t:=65) (by simp) 0
 go_wp2
 exact bodyPost_ret (v:=.tuple #[.agg #[.int .u8 g0],.bool true]) (by simp [results,Tryz.results20,go_sem,yk]) rfl ⟨rfl,hS.fr.setCell (by simp) _⟩
theorem noNumber3_onn (q:Nat) (t0:TypeId) (x0:Value) (l1 g1:Int) (l2 g2:Int) (o0:t0≠65) (o1:Go.bits .or .u8 0 l1 = g1) (o2:Go.bits .or .u8 g1 l2 = g2) (w:World) (hq:w.heap[q]? = some (.cells #[.iface t0 x0,.iface 65 (.agg #[.int .u8 l1]),.iface 65 (.agg #[.int .u8 l2])] 37 (0,0))) :
  Calls Tryz.prog 20 #[.slice (some ⟨q,0,none⟩) 3 3] w fun e w'=>e = .returned (.tuple #[.agg #[.int .u8 g2],.bool true])∧Below w.heap.size w w':=by
 go_enter Tryz.func20,Tryz.ntmps20
 have hS0:Fs w w [⟨q,#[.iface t0 x0,.iface 65 (.agg #[.int .u8 l1]),.iface 65 (.agg #[.int .u8 l2])],37⟩]:=⟨fun x hx=>by rcases List.mem_cons.1 hx with rfl|hx; exact hq; exact absurd hx List.not_mem_nil,Below.refl _ _⟩
 have hlq:q < w.heap.size:=block_lt hq
 have hS:=hS0.alloc #[.int .u8 0] 65
 clear hS0 hq
 obtain ⟨⟨ya,-⟩,⟨yb,yc,yd,-⟩,-⟩:=hS.cells
 have ha0:=as_none (v:=x0) o0 37
 have ha1:=as_none_self (v:=.agg #[.int .u8 l1]) 37
 have ha2:=as_none_self (v:=.agg #[.int .u8 l2]) 37
 obtain ⟨WB,hWB⟩:∃ x,w.alloc (.cells #[.int .u8 0] 65) = x:=⟨_,rfl⟩
 rw [hWB] at hS ya yb yc yd
 go_wp2
 refine wp_loop_rounds 4 ?_
 rw [rounds_succ]
 go_wp2
 rw [rounds_succ]
 have hltWB_0:w.heap.size < WB.heap.size:=hS.lt 0 rfl
 have hltWB_1:q < WB.heap.size:=hS.lt 1 rfl
 obtain ⟨WV1,hWV1⟩:∃ WV1,WB.alloc (.cells #[.int .u8 l1] 65) = WV1:=⟨_,rfl⟩
 replace hS:=hS.alloc #[.int .u8 l1] 65
 rw [hWV1] at hS
 obtain ⟨⟨ye,-⟩,⟨yf,-⟩,⟨yg,yh,yi,-⟩,-⟩:=hS.cells
 obtain ⟨WS1,hWS1⟩:∃ x,WV1.setCell ⟨w.heap.size,0,none⟩ (.int .u8 g1) = x:=⟨_,rfl⟩
 have fzWS1:=hS.frozen (b:=w.heap.size) (cs:=#[.int .u8 0]) (t:=65) (by simp) 0
 go_wp2
 replace hS:=hS.put (b:=w.heap.size) (cs:=#[.int .u8 0]) (t:=65) (by simp) (by simp) 0 (.int .u8 g1) [⟨WB.heap.size,#[.int .u8 l1],65⟩,⟨w.heap.size,#[.int .u8 g1],65⟩,⟨q,#[.iface t0 x0,.iface 65 (.agg #[.int .u8 l1]),.iface 65 (.agg #[.int .u8 l2])],37⟩] (by simp <;> omega)
 rw [hWS1] at hS
 clear ye yf yg yh yi ya yb yc yd
 clear fzWS1
 obtain ⟨⟨yj,-⟩,⟨yk,-⟩,⟨yl,ym,yn,-⟩,-⟩:=hS.cells
 rw [rounds_succ]
 have hltWS1_0:WB.heap.size < WS1.heap.size:=hS.lt 0 rfl
 have hltWS1_1:w.heap.size < WS1.heap.size:=hS.lt 1 rfl
 have hltWS1_2:q < WS1.heap.size:=hS.lt 2 rfl
 obtain ⟨WV2,hWV2⟩:∃ WV2,WS1.alloc (.cells #[.int .u8 l2] 65) = WV2:=⟨_,rfl⟩
 replace hS:=hS.alloc #[.int .u8 l2] 65
 rw [hWV2] at hS
 obtain ⟨⟨yo,-⟩,⟨yp,-⟩,⟨yq,-⟩,⟨yr,ys,yt,-⟩,-⟩:=hS.cells
 obtain ⟨WS2,hWS2⟩:∃ x,WV2.setCell ⟨w.heap.size,0,none⟩ (.int .u8 g2) = x:=⟨_,rfl⟩
 have fzWS2:=hS.frozen (b:=w.heap.size) (cs:=#[.int .u8 g1]) (t:=65) (by simp) 0
 go_wp2
 replace hS:=hS.put (b:=w.heap.size) (cs:=#[.int .u8 g1]) (t:=65) (by simp) (by simp) 0 (.int .u8 g2) [⟨WS1.heap.size,#[.int .u8 l2],65⟩,⟨WB.heap.size,#[.int .u8 l1],65⟩,⟨w.heap.size,#[.int .u8 g2],65⟩,⟨q,#[.iface t0 x0,.iface 65 (.agg #[.int .u8 l1]),.iface 65 (.agg #[.int .u8 l2])],37⟩] (by simp <;> omega)
 rw [hWS2] at hS
 clear yo yp yq yr ys yt yj yk yl ym yn
 clear fzWS2
 obtain ⟨⟨yu,-⟩,⟨yv,-⟩,⟨yw,-⟩,⟨yx,yy,yz,-⟩,-⟩:=hS.cells
 rw [rounds_succ]
 have fz0:=hS.frozen (b:=w.heap.size) (cs:=#[.int .u8 g2]) (t:=65) (by simp) 0
 go_wp2
 exact bodyPost_ret (v:=.tuple #[.agg #[.int .u8 g2],.bool true]) (by simp [results,Tryz.results20,go_sem,yw]) rfl ⟨rfl,hS.fr.setCell (by simp) _⟩
theorem noNumber3_ono (q:Nat) (t0:TypeId) (x0:Value) (l1 g1:Int) (t2:TypeId) (x2:Value) (o0:t0≠65) (o1:Go.bits .or .u8 0 l1 = g1) (o2:t2≠65) (w:World) (hq:w.heap[q]? = some (.cells #[.iface t0 x0,.iface 65 (.agg #[.int .u8 l1]),.iface t2 x2] 37 (0,0))) :
  Calls Tryz.prog 20 #[.slice (some ⟨q,0,none⟩) 3 3] w fun e w'=>e = .returned (.tuple #[.agg #[.int .u8 g1],.bool true])∧Below w.heap.size w w':=by
 go_enter Tryz.func20,Tryz.ntmps20
 have hS0:Fs w w [⟨q,#[.iface t0 x0,.iface 65 (.agg #[.int .u8 l1]),.iface t2 x2],37⟩]:=⟨fun x hx=>by rcases List.mem_cons.1 hx with rfl|hx; exact hq; exact absurd hx List.not_mem_nil,Below.refl _ _⟩
 have hlq:q < w.heap.size:=block_lt hq
 have hS:=hS0.alloc #[.int .u8 0] 65
 clear hS0 hq
 obtain ⟨⟨ya,-⟩,⟨yb,yc,yd,-⟩,-⟩:=hS.cells
 have ha0:=as_none (v:=x0) o0 37
 have ha1:=as_none_self (v:=.agg #[.int .u8 l1]) 37
 have ha2:=as_none (v:=x2) o2 37
 obtain ⟨WB,hWB⟩:∃ x,w.alloc (.cells #[.int .u8 0] 65) = x:=⟨_,rfl⟩
 rw [hWB] at hS ya yb yc yd
 go_wp2
 refine wp_loop_rounds 4 ?_
 rw [rounds_succ]
 go_wp2
 rw [rounds_succ]
 have hltWB_0:w.heap.size < WB.heap.size:=hS.lt 0 rfl
 have hltWB_1:q < WB.heap.size:=hS.lt 1 rfl
 obtain ⟨WV1,hWV1⟩:∃ WV1,WB.alloc (.cells #[.int .u8 l1] 65) = WV1:=⟨_,rfl⟩
 replace hS:=hS.alloc #[.int .u8 l1] 65
 rw [hWV1] at hS
 obtain ⟨⟨ye,-⟩,⟨yf,-⟩,⟨yg,yh,yi,-⟩,-⟩:=hS.cells
 obtain ⟨WS1,hWS1⟩:∃ x,WV1.setCell ⟨w.heap.size,0,none⟩ (.int .u8 g1) = x:=⟨_,rfl⟩
 have fzWS1:=hS.frozen (b:=w.heap.size) (cs:=#[.int .u8 0]) (t:=65) (by simp) 0
 go_wp2
 replace hS:=hS.put (b:=w.heap.size) (cs:=#[.int .u8 0]) (t:=65) (by simp) (by simp) 0 (.int .u8 g1) [⟨WB.heap.size,#[.int .u8 l1],65⟩,⟨w.heap.size,#[.int .u8 g1],65⟩,⟨q,#[.iface t0 x0,.iface 65 (.agg #[.int .u8 l1]),.iface t2 x2],37⟩] (by simp <;> omega)
 rw [hWS1] at hS
 clear ye yf yg yh yi ya yb yc yd
 clear fzWS1
 obtain ⟨⟨yj,-⟩,⟨yk,-⟩,⟨yl,ym,yn,-⟩,-⟩:=hS.cells
 rw [rounds_succ]
 go_wp2
 rw [rounds_succ]
 have fz0:=hS.frozen (b:=w.heap.size) (cs:=#[.int .u8 g1]) (t:=65) (by simp) 0
 go_wp2
 exact bodyPost_ret (v:=.tuple #[.agg #[.int .u8 g1],.bool true]) (by simp [results,Tryz.results20,go_sem,yk]) rfl ⟨rfl,hS.fr.setCell (by simp) _⟩
theorem noNumber3_oon (q:Nat) (t0:TypeId) (x0:Value) (t1:TypeId) (x1:Value) (l2 g2:Int) (o0:t0≠65) (o1:t1≠65) (o2:Go.bits .or .u8 0 l2 = g2) (w:World) (hq:w.heap[q]? = some (.cells #[.iface t0 x0,.iface t1 x1,.iface 65 (.agg #[.int .u8 l2])] 37 (0,0))) :
  Calls Tryz.prog 20 #[.slice (some ⟨q,0,none⟩) 3 3] w fun e w'=>e = .returned (.tuple #[.agg #[.int .u8 g2],.bool true])∧Below w.heap.size w w':=by
 go_enter Tryz.func20,Tryz.ntmps20
 have hS0:Fs w w [⟨q,#[.iface t0 x0,.iface t1 x1,.iface 65 (.agg #[.int .u8 l2])],37⟩]:=⟨fun x hx=>by rcases List.mem_cons.1 hx with rfl|hx; exact hq; exact absurd hx List.not_mem_nil,Below.refl _ _⟩
 have hlq:q < w.heap.size:=block_lt hq
 have hS:=hS0.alloc #[.int .u8 0] 65
 clear hS0 hq
 obtain ⟨⟨ya,-⟩,⟨yb,yc,yd,-⟩,-⟩:=hS.cells
 have ha0:=as_none (v:=x0) o0 37
 have ha1:=as_none (v:=x1) o1 37
 have ha2:=as_none_self (v:=.agg #[.int .u8 l2]) 37
 obtain ⟨WB,hWB⟩:∃ x,w.alloc (.cells #[.int .u8 0] 65) = x:=⟨_,rfl⟩
 rw [hWB] at hS ya yb yc yd
 go_wp2
 refine wp_loop_rounds 4 ?_
 rw [rounds_succ]
 go_wp2
 rw [rounds_succ]
 go_wp2
 rw [rounds_succ]
 have hltWB_0:w.heap.size < WB.heap.size:=hS.lt 0 rfl
 have hltWB_1:q < WB.heap.size:=hS.lt 1 rfl
 obtain ⟨WV2,hWV2⟩:∃ WV2,WB.alloc (.cells #[.int .u8 l2] 65) = WV2:=⟨_,rfl⟩
 replace hS:=hS.alloc #[.int .u8 l2] 65
 rw [hWV2] at hS
 obtain ⟨⟨ye,-⟩,⟨yf,-⟩,⟨yg,yh,yi,-⟩,-⟩:=hS.cells
 obtain ⟨WS2,hWS2⟩:∃ x,WV2.setCell ⟨w.heap.size,0,none⟩ (.int .u8 g2) = x:=⟨_,rfl⟩
 have fzWS2:=hS.frozen (b:=w.heap.size) (cs:=#[.int .u8 0]) (t:=65) (by simp) 0
 go_wp2
 replace hS:=hS.put (b:=w.heap.size) (cs:=#[.int .u8 0]) (t:=65) (by simp) (by simp) 0 (.int .u8 g2) [⟨WB.heap.size,#[.int .u8 l2],65⟩,⟨w.heap.size,#[.int .u8 g2],65⟩,⟨q,#[.iface t0 x0,.iface t1 x1,.iface 65 (.agg #[.int .u8 l2])],37⟩] (by simp <;> omega)
 rw [hWS2] at hS
 clear ye yf yg yh yi ya yb yc yd
 clear fzWS2
 obtain ⟨⟨yj,-⟩,⟨yk,-⟩,⟨yl,ym,yn,-⟩,-⟩:=hS.cells
 rw [rounds_succ]
 have fz0:=hS.frozen (b:=w.heap.size) (cs:=#[.int .u8 g2]) (t:=65) (by simp) 0
 go_wp2
 exact bodyPost_ret (v:=.tuple #[.agg #[.int .u8 g2],.bool true]) (by simp [results,Tryz.results20,go_sem,yk]) rfl ⟨rfl,hS.fr.setCell (by simp) _⟩
theorem noNumber3_ooo (q:Nat) (t0:TypeId) (x0:Value) (t1:TypeId) (x1:Value) (t2:TypeId) (x2:Value) (o0:t0≠65) (o1:t1≠65) (o2:t2≠65) (w:World) (hq:w.heap[q]? = some (.cells #[.iface t0 x0,.iface t1 x1,.iface t2 x2] 37 (0,0))) :
  Calls Tryz.prog 20 #[.slice (some ⟨q,0,none⟩) 3 3] w fun e w'=>e = .returned (.tuple #[.agg #[.int .u8 0],.bool false])∧Below w.heap.size w w':=by
 go_enter Tryz.func20,Tryz.ntmps20
 have hS0:Fs w w [⟨q,#[.iface t0 x0,.iface t1 x1,.iface t2 x2],37⟩]:=⟨fun x hx=>by rcases List.mem_cons.1 hx with rfl|hx; exact hq; exact absurd hx List.not_mem_nil,Below.refl _ _⟩
 have hlq:q < w.heap.size:=block_lt hq
 have hS:=hS0.alloc #[.int .u8 0] 65
 clear hS0 hq
 obtain ⟨⟨ya,-⟩,⟨yb,yc,yd,-⟩,-⟩:=hS.cells
 have ha0:=as_none (v:=x0) o0 37
 have ha1:=as_none (v:=x1) o1 37
 have ha2:=as_none (v:=x2) o2 37
 obtain ⟨WB,hWB⟩:∃ x,w.alloc (.cells #[.int .u8 0] 65) = x:=⟨_,rfl⟩
 rw [hWB] at hS ya yb yc yd
 go_wp2
 refine wp_loop_rounds 4 ?_
 rw [rounds_succ]
 go_wp2
 rw [rounds_succ]
 go_wp2
 rw [rounds_succ]
 go_wp2
 rw [rounds_succ]
 have fz0:=hS.frozen (b:=w.heap.size) (cs:=#[.int .u8 0]) (t:=65) (by simp) 0
 go_wp2
 exact bodyPost_ret (v:=.tuple #[.agg #[.int .u8 0],.bool false]) (by simp [results,Tryz.results20,go_sem,ya]) rfl ⟨rfl,hS.fr.setCell (by simp) _⟩
def Kd.isNan:Kd→Bool
 | .nan _=>true
 | _=>false
def nnS (g:Int):Kd→Int
 | .nan a=>Go.bits .or .u8 g (a:Int)
 | _=>g
def nn3 (k0 k1 k2:Kd):Int:=nnS (nnS (nnS 0 k0) k1) k2
theorem nnS_of {g:Int} {k:Kd} (h:k.isNan = false):nnS g k = g:=by
 cases k <;> first|rfl|cases h
theorem flt_split {w:World} {B:Nat} {v:Value} {k:Kd} (h:Flt w B v k):(∃ a:Nat,k = .nan a∧v = .iface 65 (.agg #[.int .u8 (a:Int)]))∨(k.isNan = false∧∃ t x,v = .iface t x∧t≠65):=by
 cases k with
 | nan a=>exact Or.inl ⟨a,rfl,h⟩
 | inf n f=>exact Or.inr ⟨rfl,_,_,h,by decide⟩
 | zero n f=>exact Or.inr ⟨rfl,_,_,h,by decide⟩
 | num s m x f=>obtain ⟨A,N,C,h,_⟩:=h; exact Or.inr ⟨rfl,_,_,h,by decide⟩
theorem noNumber3 (q:Nat) (v0 v1 v2:Value) (k0 k1 k2:Kd) (B:Nat) (w:World) (hq:w.heap[q]? = some (.cells #[v0,v1,v2] 37 (0,0))) (h0:Flt w B v0 k0) (h1:Flt w B v1 k1) (h2:Flt w B v2 k2) :
  Calls Tryz.prog 20 #[.slice (some ⟨q,0,none⟩) 3 3] w fun e w'=>e = .returned (.tuple #[.agg #[.int .u8 (nn3 k0 k1 k2)],.bool (k0.isNan || k1.isNan || k2.isNan)])∧Below w.heap.size w w':=by
 unfold nn3
 rcases flt_split h0 with ⟨a0,rfl,rfl⟩|⟨e0,t0,y0,rfl,o0⟩ <;> rcases flt_split h1 with ⟨a1,rfl,rfl⟩|⟨e1,t1,y1,rfl,o1⟩ <;> rcases flt_split h2 with ⟨a2,rfl,rfl⟩|⟨e2,t2,y2,rfl,o2⟩
 ·exact noNumber3_nnn q _ _ _ _ _ _ rfl rfl rfl w hq
 ·rw [nnS_of e2,e2]; exact noNumber3_nno q _ _ _ _ _ _ rfl rfl o2 w hq
 ·rw [nnS_of e1,e1]; exact noNumber3_non q _ _ _ _ _ _ rfl o1 rfl w hq
 ·rw [nnS_of e1,nnS_of e2,e1,e2]; exact noNumber3_noo q _ _ _ _ _ _ rfl o1 o2 w hq
 ·rw [nnS_of e0,e0]; exact noNumber3_onn q _ _ _ _ _ _ o0 rfl rfl w hq
 ·rw [nnS_of e0,nnS_of e2,e0,e2]; exact noNumber3_ono q _ _ _ _ _ _ o0 rfl o2 w hq
 ·rw [nnS_of e0,nnS_of e1,e0,e1]; exact noNumber3_oon q _ _ _ _ _ _ o0 o1 rfl w hq
 ·rw [nnS_of e0,nnS_of e1,nnS_of e2,e0,e1,e2]; exact noNumber3_ooo q _ _ _ _ _ _ o0 o1 o2 w hq
end Go.Proofs.YtfimakkpdjppfaaGreatDoor
