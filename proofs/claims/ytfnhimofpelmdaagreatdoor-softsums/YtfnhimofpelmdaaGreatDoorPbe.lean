/- Of what SoftSumsRow stands on: SfFlts SfNo SfOrd. -/
import Derived.Test.YtfnhimofpelmdaaGreatDoorPbd
import Derived.Deep.OwnRows
namespace Go.Proofs.YtfnhimofpelmdaaGreatDoor
open Go.RowKit
set_option maxHeartbeats 4000000
set_option maxRecDepth 20000
theorem Tryz.info_flt : (Tryz.prog.info? 39).map (fun i => (i.zero,i.size,i.bytes)) = some (some .nilIface,1,16) := by kernel_rfl
theorem Tryz.under_flts : Tryz.prog.underlying 37 = some (.slice 39) := by kernel_rfl
theorem make_fl2 (w : World) : (Instr.makeSlice 37 (.int .i64 2) (.int .i64 2)).run Tryz.prog w = .ok (.slice (some ⟨w.heap.size,0,none⟩) 2 2) (w.alloc (.cells #[.nilIface,.nilIface] 39)) := by
 have h := run_make_row' (P := Tryz.prog) 37 39 .nilIface 16 Tryz.under_flts Tryz.info_flt rfl .i64 .i64 2 (by decide) (by decide) w
 rw [show madeCells #[Value.nilIface] 2 = #[.nilIface,.nilIface] from Array.toList_inj.1 (by rw [toList_madeCells_one]; rfl)] at h
 exact h
def Fls2 (B : Nat) (k0 k1 : Kd) (e : Ending) (w' : World) : Prop := ∃ q t0 x0 t1 x1,e = .returned (.slice (some ⟨q,0,none⟩) 2 2) ∧ B ≤ q ∧ w'.heap[q]? = some (.cells #[.iface t0 x0,.iface t1 x1] 39 (0,0)) ∧ Flt w' (q + 1) (.iface t0 x0) k0 ∧ Flt w' (q + 1) (.iface t1 x1) k1
theorem floatsOf2 (E F : Int) (p : Nat) (b0 b1 : Int) (k0 k1 : Kd) (H0 : Hid (FlOf E F b0 k0)) (H1 : Hid (FlOf E F b1 k1)) (w : World) (hT : Tb w) (hp : w.heap[p]? = some (.cells #[.int .u64 b0,.int .u64 b1] 24 (0,0))) :
  Calls Tryz.prog 50 #[.agg #[.int .i64 E,.int .i64 F],.slice (some ⟨p,0,none⟩) 2 2] w fun e w' => Fls2 w.heap.size k0 k1 e w' ∧ Below w.heap.size w w' := by
 have HT := hide hT
 clear hT
 go_enter Tryz.func50,Tryz.ntmps50
 have hS0 : Fs w w [⟨p,#[.int .u64 b0,.int .u64 b1],24⟩] := ⟨fun x hx => by rcases List.mem_cons.1 hx with rfl | hx; exact hp; exact absurd hx List.not_mem_nil,Below.refl _ _⟩
 have hlp : p < w.heap.size := block_lt hp
 have hS := (hS0.alloc #[.int .i64 E,.int .i64 F] 23).alloc #[.nilIface,.nilIface] 39
 simp only [World.size_alloc] at hS
 clear hS0 hp
 have hmk := make_fl2
 obtain ⟨WV,hWV⟩ : ∃ x,(w.alloc (.cells #[.int .i64 E,.int .i64 F] 23)).alloc (.cells #[.nilIface,.nilIface] 39) = x := ⟨_,rfl⟩
 rw [hWV] at hS
 obtain ⟨⟨ya,yb,-⟩,⟨yc,yd,-⟩,⟨ye,yf,-⟩,-⟩ := hS.cells
 go_wp2
 clear hmk
 refine wp_loop_rounds 3 ?_
 rw [rounds_succ]
 have hlt0 : w.heap.size + 1 < WV.heap.size := block_lt (hS.bx ⟨w.heap.size + 1,#[.nilIface,.nilIface],39⟩ (by simp))
 go_wp2_with fail
 refine (unhide H0 _ ((unhide HT).kept hS.fr)).mono ?_
 rintro e w1 ⟨⟨t0,x0,rfl,f0⟩,hb1⟩
 replace hS := hS.kept hb1
 clear ya yb yc yd ye yf
 obtain ⟨⟨yg,yh,-⟩,⟨yi,yj,-⟩,⟨yk,yl,-⟩,-⟩ := hS.cells
 have G0 := hide (f0.mono (B' := w.heap.size + 2) hlt0)
 clear f0 hlt0
 obtain ⟨WS0,hWS0⟩ : ∃ x,w1.setCell ⟨w.heap.size + 1,0,none⟩ (.iface t0 x0) = x := ⟨_,rfl⟩
 have fzWS0 := hS.frozen (b := w.heap.size + 1) (cs := #[.nilIface,.nilIface]) (t := 39) (by simp) 0
 go_wp2
 replace hS := hS.put (b := w.heap.size + 1) (cs := #[.nilIface,.nilIface]) (t := 39) (by simp) (by simp) 0 (.iface t0 x0) [⟨w.heap.size + 1,#[.iface t0 x0,.nilIface],39⟩,⟨w.heap.size,#[.int .i64 E,.int .i64 F],23⟩,⟨p,#[.int .u64 b0,.int .u64 b1],24⟩] (by simp <;> omega)
 rw [hWS0] at hS
 replace G0 := hide (hWS0 ▸ (unhide G0).set (p := ⟨w.heap.size + 1,0,none⟩) (by show w.heap.size + 1 < w.heap.size + 2; omega) (.iface t0 x0))
 clear yg yh yi yj yk yl
 clear fzWS0
 obtain ⟨⟨ym,yn,-⟩,⟨yo,yp,-⟩,⟨yq,yr,-⟩,-⟩ := hS.cells
 rw [rounds_succ]
 have hlt1 : w.heap.size + 1 < WS0.heap.size := block_lt (hS.bx ⟨w.heap.size + 1,#[.iface t0 x0,.nilIface],39⟩ (by simp))
 go_wp2_with fail
 refine (unhide H1 _ ((unhide HT).kept hS.fr)).mono ?_
 rintro e w2 ⟨⟨t1,x1,rfl,f1⟩,hb2⟩
 replace hS := hS.kept hb2
 clear ym yn yo yp yq yr
 obtain ⟨⟨ys,yt,-⟩,⟨yu,yv,-⟩,⟨yw,yx,-⟩,-⟩ := hS.cells
 replace G0 := hide ((unhide G0).kept hb2)
 have G1 := hide (f1.mono (B' := w.heap.size + 2) hlt1)
 clear f1 hlt1
 obtain ⟨WS1,hWS1⟩ : ∃ x,w2.setCell ⟨w.heap.size + 1,1,none⟩ (.iface t1 x1) = x := ⟨_,rfl⟩
 have fzWS1 := hS.frozen (b := w.heap.size + 1) (cs := #[.iface t0 x0,.nilIface]) (t := 39) (by simp) 1
 go_wp2
 replace hS := hS.put (b := w.heap.size + 1) (cs := #[.iface t0 x0,.nilIface]) (t := 39) (by simp) (by simp) 1 (.iface t1 x1) [⟨w.heap.size + 1,#[.iface t0 x0,.iface t1 x1],39⟩,⟨w.heap.size,#[.int .i64 E,.int .i64 F],23⟩,⟨p,#[.int .u64 b0,.int .u64 b1],24⟩] (by simp <;> omega)
 rw [hWS1] at hS
 replace G0 := hide (hWS1 ▸ (unhide G0).set (p := ⟨w.heap.size + 1,1,none⟩) (by show w.heap.size + 1 < w.heap.size + 2; omega) (.iface t1 x1))
 replace G1 := hide (hWS1 ▸ (unhide G1).set (p := ⟨w.heap.size + 1,1,none⟩) (by show w.heap.size + 1 < w.heap.size + 2; omega) (.iface t1 x1))
 clear ys yt yu yv yw yx
 clear fzWS1
 obtain ⟨⟨yy,yz,-⟩,⟨y0,y1,-⟩,⟨y2,y3,-⟩,-⟩ := hS.cells
 rw [rounds_succ]
 go_wp2
 go_ret
 exact ⟨⟨_,t0,x0,t1,x1,rfl,by omega,hS.bx ⟨w.heap.size + 1,#[.iface t0 x0,.iface t1 x1],39⟩ (by simp),unhide G0,unhide G1⟩,hS.fr⟩
theorem run_as {T t : TypeId} {z v : Value} (hu : (Tryz.prog.underlying T).map (fun u => match u with | .interface _ => false | _ => true) = some true) (hz : (Tryz.prog.info? T).map (·.zero) = some (some z)) (ht : t ≠ T) (xT : TypeId) (w : World) :
  (Instr.typeAssert (.iface t v) xT T true).run Tryz.prog w = .ok (.tuple #[z,.bool false]) w := by
 obtain ⟨j,hj,hz'⟩ := Option.map_eq_some_iff.1 hz
 obtain ⟨u,hu1,hu2⟩ := Option.map_eq_some_iff.1 hu
 cases u <;> first | (exact Bool.noConfusion hu2) | simp [Instr.typeAssert,run_underlying hu1,zeroValue,typeInfo,hj,hz',ht]
theorem run_as_self {T : TypeId} {v : Value} (hu : (Tryz.prog.underlying T).map (fun u => match u with | .interface _ => false | _ => true) = some true) (xT : TypeId) (w : World) :
  (Instr.typeAssert (.iface T v) xT T true).run Tryz.prog w = .ok (.tuple #[v,.bool true]) w := by
 obtain ⟨u,hu1,hu2⟩ := Option.map_eq_some_iff.1 hu
 cases u <;> first | (exact Bool.noConfusion hu2) | simp [Instr.typeAssert,run_underlying hu1]
theorem as_none {t : TypeId} {v : Value} (ht : t ≠ 85) (xT : TypeId) (w : World) : (Instr.typeAssert (.iface t v) xT 85 true).run Tryz.prog w = .ok (.tuple #[.agg #[.int .u8 0],.bool false]) w := run_as (by kernel_rfl) (by kernel_rfl) ht xT w
theorem as_none_self {v : Value} (xT : TypeId) (w : World) : (Instr.typeAssert (.iface 85 v) xT 85 true).run Tryz.prog w = .ok (.tuple #[v,.bool true]) w := run_as_self (by kernel_rfl) xT w
theorem noNumber2_nn (q : Nat) (l0 g0 : Int) (l1 g1 : Int) (o0 : Go.bits .or .u8 0 l0 = g0) (o1 : Go.bits .or .u8 g0 l1 = g1) (w : World) (hq : w.heap[q]? = some (.cells #[.iface 85 (.agg #[.int .u8 l0]),.iface 85 (.agg #[.int .u8 l1])] 39 (0,0))) :
  Calls Tryz.prog 51 #[.slice (some ⟨q,0,none⟩) 2 2] w fun e w' => e = .returned (.tuple #[.agg #[.int .u8 g1],.bool true]) ∧ Below w.heap.size w w' := by
 go_enter Tryz.func51,Tryz.ntmps51
 have hS0 : Fs w w [⟨q,#[.iface 85 (.agg #[.int .u8 l0]),.iface 85 (.agg #[.int .u8 l1])],39⟩] := ⟨fun x hx => by rcases List.mem_cons.1 hx with rfl | hx; exact hq; exact absurd hx List.not_mem_nil,Below.refl _ _⟩
 have hlq : q < w.heap.size := block_lt hq
 have hS := hS0.alloc #[.int .u8 0] 85
 clear hS0 hq
 obtain ⟨⟨ya,-⟩,⟨yb,yc,-⟩,-⟩ := hS.cells
 have ha0 := as_none_self (v := .agg #[.int .u8 l0]) 39
 have ha1 := as_none_self (v := .agg #[.int .u8 l1]) 39
 obtain ⟨WB,hWB⟩ : ∃ x,w.alloc (.cells #[.int .u8 0] 85) = x := ⟨_,rfl⟩
 rw [hWB] at hS ya yb yc
 go_wp2
 refine wp_loop_rounds 3 ?_
 rw [rounds_succ]
 have hltWB_0 : w.heap.size < WB.heap.size := hS.lt 0 rfl
 have hltWB_1 : q < WB.heap.size := hS.lt 1 rfl
 obtain ⟨WV0,hWV0⟩ : ∃ WV0,WB.alloc (.cells #[.int .u8 l0] 85) = WV0 := ⟨_,rfl⟩
 replace hS := hS.alloc #[.int .u8 l0] 85
 rw [hWV0] at hS
 obtain ⟨⟨yd,-⟩,⟨ye,-⟩,⟨yf,yg,-⟩,-⟩ := hS.cells
 obtain ⟨WS0,hWS0⟩ : ∃ x,WV0.setCell ⟨w.heap.size,0,none⟩ (.int .u8 g0) = x := ⟨_,rfl⟩
 have fzWS0 := hS.frozen (b := w.heap.size) (cs := #[.int .u8 0]) (t := 85) (by simp) 0
 go_wp2
 replace hS := hS.put (b := w.heap.size) (cs := #[.int .u8 0]) (t := 85) (by simp) (by simp) 0 (.int .u8 g0) [⟨WB.heap.size,#[.int .u8 l0],85⟩,⟨w.heap.size,#[.int .u8 g0],85⟩,⟨q,#[.iface 85 (.agg #[.int .u8 l0]),.iface 85 (.agg #[.int .u8 l1])],39⟩] (by simp <;> omega)
 rw [hWS0] at hS
 clear yd ye yf yg ya yb yc
 clear fzWS0
 obtain ⟨⟨yh,-⟩,⟨yi,-⟩,⟨yj,yk,-⟩,-⟩ := hS.cells
 rw [rounds_succ]
 have hltWS0_0 : WB.heap.size < WS0.heap.size := hS.lt 0 rfl
 have hltWS0_1 : w.heap.size < WS0.heap.size := hS.lt 1 rfl
 have hltWS0_2 : q < WS0.heap.size := hS.lt 2 rfl
 obtain ⟨WV1,hWV1⟩ : ∃ WV1,WS0.alloc (.cells #[.int .u8 l1] 85) = WV1 := ⟨_,rfl⟩
 replace hS := hS.alloc #[.int .u8 l1] 85
 rw [hWV1] at hS
 obtain ⟨⟨yl,-⟩,⟨ym,-⟩,⟨yn,-⟩,⟨yo,yp,-⟩,-⟩ := hS.cells
 obtain ⟨WS1,hWS1⟩ : ∃ x,WV1.setCell ⟨w.heap.size,0,none⟩ (.int .u8 g1) = x := ⟨_,rfl⟩
 have fzWS1 := hS.frozen (b := w.heap.size) (cs := #[.int .u8 g0]) (t := 85) (by simp) 0
 go_wp2
 replace hS := hS.put (b := w.heap.size) (cs := #[.int .u8 g0]) (t := 85) (by simp) (by simp) 0 (.int .u8 g1) [⟨WS0.heap.size,#[.int .u8 l1],85⟩,⟨WB.heap.size,#[.int .u8 l0],85⟩,⟨w.heap.size,#[.int .u8 g1],85⟩,⟨q,#[.iface 85 (.agg #[.int .u8 l0]),.iface 85 (.agg #[.int .u8 l1])],39⟩] (by simp <;> omega)
 rw [hWS1] at hS
 clear yl ym yn yo yp yh yi yj yk
 clear fzWS1
 obtain ⟨⟨yq,-⟩,⟨yr,-⟩,⟨ys,-⟩,⟨yt,yu,-⟩,-⟩ := hS.cells
 rw [rounds_succ]
 have fz0 := hS.frozen (b := w.heap.size) (cs := #[.int .u8 g1]) (t := 85) (by simp) 0
 go_wp2
 exact bodyPost_ret (v := .tuple #[.agg #[.int .u8 g1],.bool true]) (by simp [results,Tryz.results51,go_sem,ys]) rfl ⟨rfl,hS.fr.setCell (by simp) _⟩
theorem noNumber2_no (q : Nat) (l0 g0 : Int) (t1 : TypeId) (x1 : Value) (o0 : Go.bits .or .u8 0 l0 = g0) (o1 : t1 ≠ 85) (w : World) (hq : w.heap[q]? = some (.cells #[.iface 85 (.agg #[.int .u8 l0]),.iface t1 x1] 39 (0,0))) :
  Calls Tryz.prog 51 #[.slice (some ⟨q,0,none⟩) 2 2] w fun e w' => e = .returned (.tuple #[.agg #[.int .u8 g0],.bool true]) ∧ Below w.heap.size w w' := by
 go_enter Tryz.func51,Tryz.ntmps51
 have hS0 : Fs w w [⟨q,#[.iface 85 (.agg #[.int .u8 l0]),.iface t1 x1],39⟩] := ⟨fun x hx => by rcases List.mem_cons.1 hx with rfl | hx; exact hq; exact absurd hx List.not_mem_nil,Below.refl _ _⟩
 have hlq : q < w.heap.size := block_lt hq
 have hS := hS0.alloc #[.int .u8 0] 85
 clear hS0 hq
 obtain ⟨⟨ya,-⟩,⟨yb,yc,-⟩,-⟩ := hS.cells
 have ha0 := as_none_self (v := .agg #[.int .u8 l0]) 39
 have ha1 := as_none (v := x1) o1 39
 obtain ⟨WB,hWB⟩ : ∃ x,w.alloc (.cells #[.int .u8 0] 85) = x := ⟨_,rfl⟩
 rw [hWB] at hS ya yb yc
 go_wp2
 refine wp_loop_rounds 3 ?_
 rw [rounds_succ]
 have hltWB_0 : w.heap.size < WB.heap.size := hS.lt 0 rfl
 have hltWB_1 : q < WB.heap.size := hS.lt 1 rfl
 obtain ⟨WV0,hWV0⟩ : ∃ WV0,WB.alloc (.cells #[.int .u8 l0] 85) = WV0 := ⟨_,rfl⟩
 replace hS := hS.alloc #[.int .u8 l0] 85
 rw [hWV0] at hS
 obtain ⟨⟨yd,-⟩,⟨ye,-⟩,⟨yf,yg,-⟩,-⟩ := hS.cells
 obtain ⟨WS0,hWS0⟩ : ∃ x,WV0.setCell ⟨w.heap.size,0,none⟩ (.int .u8 g0) = x := ⟨_,rfl⟩
 have fzWS0 := hS.frozen (b := w.heap.size) (cs := #[.int .u8 0]) (t := 85) (by simp) 0
 go_wp2
 replace hS := hS.put (b := w.heap.size) (cs := #[.int .u8 0]) (t := 85) (by simp) (by simp) 0 (.int .u8 g0) [⟨WB.heap.size,#[.int .u8 l0],85⟩,⟨w.heap.size,#[.int .u8 g0],85⟩,⟨q,#[.iface 85 (.agg #[.int .u8 l0]),.iface t1 x1],39⟩] (by simp <;> omega)
 rw [hWS0] at hS
 clear yd ye yf yg ya yb yc
 clear fzWS0
 obtain ⟨⟨yh,-⟩,⟨yi,-⟩,⟨yj,yk,-⟩,-⟩ := hS.cells
 rw [rounds_succ]
 go_wp2
 rw [rounds_succ]
 have fz0 := hS.frozen (b := w.heap.size) (cs := #[.int .u8 g0]) (t := 85) (by simp) 0
 go_wp2
 exact bodyPost_ret (v := .tuple #[.agg #[.int .u8 g0],.bool true]) (by simp [results,Tryz.results51,go_sem,yi]) rfl ⟨rfl,hS.fr.setCell (by simp) _⟩
theorem noNumber2_on (q : Nat) (t0 : TypeId) (x0 : Value) (l1 g1 : Int) (o0 : t0 ≠ 85) (o1 : Go.bits .or .u8 0 l1 = g1) (w : World) (hq : w.heap[q]? = some (.cells #[.iface t0 x0,.iface 85 (.agg #[.int .u8 l1])] 39 (0,0))) :
  Calls Tryz.prog 51 #[.slice (some ⟨q,0,none⟩) 2 2] w fun e w' => e = .returned (.tuple #[.agg #[.int .u8 g1],.bool true]) ∧ Below w.heap.size w w' := by
 go_enter Tryz.func51,Tryz.ntmps51
 have hS0 : Fs w w [⟨q,#[.iface t0 x0,.iface 85 (.agg #[.int .u8 l1])],39⟩] := ⟨fun x hx => by rcases List.mem_cons.1 hx with rfl | hx; exact hq; exact absurd hx List.not_mem_nil,Below.refl _ _⟩
 have hlq : q < w.heap.size := block_lt hq
 have hS := hS0.alloc #[.int .u8 0] 85
 clear hS0 hq
 obtain ⟨⟨ya,-⟩,⟨yb,yc,-⟩,-⟩ := hS.cells
 have ha0 := as_none (v := x0) o0 39
 have ha1 := as_none_self (v := .agg #[.int .u8 l1]) 39
 obtain ⟨WB,hWB⟩ : ∃ x,w.alloc (.cells #[.int .u8 0] 85) = x := ⟨_,rfl⟩
 rw [hWB] at hS ya yb yc
 go_wp2
 refine wp_loop_rounds 3 ?_
 rw [rounds_succ]
 go_wp2
 rw [rounds_succ]
 have hltWB_0 : w.heap.size < WB.heap.size := hS.lt 0 rfl
 have hltWB_1 : q < WB.heap.size := hS.lt 1 rfl
 obtain ⟨WV1,hWV1⟩ : ∃ WV1,WB.alloc (.cells #[.int .u8 l1] 85) = WV1 := ⟨_,rfl⟩
 replace hS := hS.alloc #[.int .u8 l1] 85
 rw [hWV1] at hS
 obtain ⟨⟨yd,-⟩,⟨ye,-⟩,⟨yf,yg,-⟩,-⟩ := hS.cells
 obtain ⟨WS1,hWS1⟩ : ∃ x,WV1.setCell ⟨w.heap.size,0,none⟩ (.int .u8 g1) = x := ⟨_,rfl⟩
 have fzWS1 := hS.frozen (b := w.heap.size) (cs := #[.int .u8 0]) (t := 85) (by simp) 0
 go_wp2
 replace hS := hS.put (b := w.heap.size) (cs := #[.int .u8 0]) (t := 85) (by simp) (by simp) 0 (.int .u8 g1) [⟨WB.heap.size,#[.int .u8 l1],85⟩,⟨w.heap.size,#[.int .u8 g1],85⟩,⟨q,#[.iface t0 x0,.iface 85 (.agg #[.int .u8 l1])],39⟩] (by simp <;> omega)
 rw [hWS1] at hS
 clear yd ye yf yg ya yb yc
 clear fzWS1
 obtain ⟨⟨yh,-⟩,⟨yi,-⟩,⟨yj,yk,-⟩,-⟩ := hS.cells
 rw [rounds_succ]
 have fz0 := hS.frozen (b := w.heap.size) (cs := #[.int .u8 g1]) (t := 85) (by simp) 0
 go_wp2
 exact bodyPost_ret (v := .tuple #[.agg #[.int .u8 g1],.bool true]) (by simp [results,Tryz.results51,go_sem,yi]) rfl ⟨rfl,hS.fr.setCell (by simp) _⟩
theorem noNumber2_oo (q : Nat) (t0 : TypeId) (x0 : Value) (t1 : TypeId) (x1 : Value) (o0 : t0 ≠ 85) (o1 : t1 ≠ 85) (w : World) (hq : w.heap[q]? = some (.cells #[.iface t0 x0,.iface t1 x1] 39 (0,0))) :
  Calls Tryz.prog 51 #[.slice (some ⟨q,0,none⟩) 2 2] w fun e w' => e = .returned (.tuple #[.agg #[.int .u8 0],.bool false]) ∧ Below w.heap.size w w' := by
 go_enter Tryz.func51,Tryz.ntmps51
 have hS0 : Fs w w [⟨q,#[.iface t0 x0,.iface t1 x1],39⟩] := ⟨fun x hx => by rcases List.mem_cons.1 hx with rfl | hx; exact hq; exact absurd hx List.not_mem_nil,Below.refl _ _⟩
 have hlq : q < w.heap.size := block_lt hq
 have hS := hS0.alloc #[.int .u8 0] 85
 clear hS0 hq
 obtain ⟨⟨ya,-⟩,⟨yb,yc,-⟩,-⟩ := hS.cells
 have ha0 := as_none (v := x0) o0 39
 have ha1 := as_none (v := x1) o1 39
 obtain ⟨WB,hWB⟩ : ∃ x,w.alloc (.cells #[.int .u8 0] 85) = x := ⟨_,rfl⟩
 rw [hWB] at hS ya yb yc
 go_wp2
 refine wp_loop_rounds 3 ?_
 rw [rounds_succ]
 go_wp2
 rw [rounds_succ]
 go_wp2
 rw [rounds_succ]
 have fz0 := hS.frozen (b := w.heap.size) (cs := #[.int .u8 0]) (t := 85) (by simp) 0
 go_wp2
 exact bodyPost_ret (v := .tuple #[.agg #[.int .u8 0],.bool false]) (by simp [results,Tryz.results51,go_sem,ya]) rfl ⟨rfl,hS.fr.setCell (by simp) _⟩
def Kd.isNan : Kd → Bool
 | .nan _ => true
 | _ => false
def nn2 : Kd → Kd → Int
 | .nan a,.nan b => Go.bits .or .u8 (Go.bits .or .u8 0 (a : Int)) (b : Int)
 | .nan a,_ => Go.bits .or .u8 0 (a : Int)
 | _,.nan b => Go.bits .or .u8 0 (b : Int)
 | _,_ => 0
theorem noNumber2 (q : Nat) (v0 v1 : Value) (k0 k1 : Kd) (B : Nat) (w : World) (hq : w.heap[q]? = some (.cells #[v0,v1] 39 (0,0))) (h0 : Flt w B v0 k0) (h1 : Flt w B v1 k1) :
  Calls Tryz.prog 51 #[.slice (some ⟨q,0,none⟩) 2 2] w fun e w' => e = .returned (.tuple #[.agg #[.int .u8 (nn2 k0 k1)],.bool (k0.isNan || k1.isNan)]) ∧ Below w.heap.size w w' := by
 cases k0 with
 | nan a =>
  obtain rfl := h0
  cases k1 with
  | nan b => obtain rfl := h1; exact noNumber2_nn q _ _ _ _ rfl rfl w hq
  | inf n f => obtain rfl := h1; exact noNumber2_no q _ _ _ _ rfl (by decide) w hq
  | zero n f => obtain rfl := h1; exact noNumber2_no q _ _ _ _ rfl (by decide) w hq
  | num s m x f => obtain ⟨A,N,C,rfl,_⟩ := h1; exact noNumber2_no q _ _ _ _ rfl (by decide) w hq
 | inf n f =>
  obtain rfl := h0
  cases k1 with
  | nan b => obtain rfl := h1; exact noNumber2_on q _ _ _ _ (by decide) rfl w hq
  | inf n f => obtain rfl := h1; exact noNumber2_oo q _ _ _ _ (by decide) (by decide) w hq
  | zero n f => obtain rfl := h1; exact noNumber2_oo q _ _ _ _ (by decide) (by decide) w hq
  | num s m x f => obtain ⟨A,N,C,rfl,_⟩ := h1; exact noNumber2_oo q _ _ _ _ (by decide) (by decide) w hq
 | zero n f =>
  obtain rfl := h0
  cases k1 with
  | nan b => obtain rfl := h1; exact noNumber2_on q _ _ _ _ (by decide) rfl w hq
  | inf n f => obtain rfl := h1; exact noNumber2_oo q _ _ _ _ (by decide) (by decide) w hq
  | zero n f => obtain rfl := h1; exact noNumber2_oo q _ _ _ _ (by decide) (by decide) w hq
  | num s m x f => obtain ⟨A,N,C,rfl,_⟩ := h1; exact noNumber2_oo q _ _ _ _ (by decide) (by decide) w hq
 | num s m x f =>
  obtain ⟨A,N,C,rfl,_⟩ := h0
  cases k1 with
  | nan b => obtain rfl := h1; exact noNumber2_on q _ _ _ _ (by decide) rfl w hq
  | inf n f => obtain rfl := h1; exact noNumber2_oo q _ _ _ _ (by decide) (by decide) w hq
  | zero n f => obtain rfl := h1; exact noNumber2_oo q _ _ _ _ (by decide) (by decide) w hq
  | num s m x f => obtain ⟨A,N,C,rfl,_⟩ := h1; exact noNumber2_oo q _ _ _ _ (by decide) (by decide) w hq
end Go.Proofs.YtfnhimofpelmdaaGreatDoor
