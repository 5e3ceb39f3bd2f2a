/- Of what SoftPicksRow stands on: SfFlts SfNo SfOrd SfLaw SfKinds SfPicksLaw. -/
import Derived.Test.YtongmpfampjdoaaGreatDoorPbb
import Derived.Deep.OwnRows
import Derived.Test.YtongmpfampjdoaaGreatDoorPbc
import Derived.Test.YtongmpfampjdoaaGreatDoorPat
namespace Go.Proofs.YtongmpfampjdoaaGreatDoor
open Go.RowKit
set_option maxHeartbeats 8000000
set_option maxRecDepth 20000
theorem Tryz.info_flt : (Tryz.prog.info? 67).map (fun i => (i.zero,i.size,i.bytes)) = some (some .nilIface,1,16) := by kernel_rfl
theorem Tryz.under_flts : Tryz.prog.underlying 47 = some (.slice 67) := by kernel_rfl
theorem make_fl2 (w : World) : (Instr.makeSlice 47 (.int .i64 2) (.int .i64 2)).run Tryz.prog w = .ok (.slice (some ⟨w.heap.size,0,none⟩) 2 2) (w.alloc (.cells #[.nilIface,.nilIface] 67)) := by
 have h := run_make_row' (P := Tryz.prog) 47 67 .nilIface 16 Tryz.under_flts Tryz.info_flt rfl .i64 .i64 2 (by decide) (by decide) w
 rw [show madeCells #[Value.nilIface] 2 = #[.nilIface,.nilIface] from Array.toList_inj.1 (by rw [toList_madeCells_one]; rfl)] at h
 exact h
def Fls2 (B : Nat) (k0 k1 : Kd) (e : Ending) (w' : World) : Prop := ∃ q t0 x0 t1 x1,e = .returned (.slice (some ⟨q,0,none⟩) 2 2) ∧ B ≤ q ∧ w'.heap[q]? = some (.cells #[.iface t0 x0,.iface t1 x1] 67 (0,0)) ∧ Flt w' (q + 1) (.iface t0 x0) k0 ∧ Flt w' (q + 1) (.iface t1 x1) k1
theorem floatsOf2 (E F : Int) (p : Nat) (b0 b1 : Int) (k0 k1 : Kd) (H0 : Hid (FlOf E F b0 k0)) (H1 : Hid (FlOf E F b1 k1)) (w : World) (hT : Tb w) (hp : w.heap[p]? = some (.cells #[.int .u64 b0,.int .u64 b1] 24 (0,0))) :
  Calls Tryz.prog 22 #[.agg #[.int .i64 E,.int .i64 F],.slice (some ⟨p,0,none⟩) 2 2] w fun e w' => Fls2 w.heap.size k0 k1 e w' ∧ Below w.heap.size w w' := by
 have HT := hide hT
 clear hT
 go_enter Tryz.func22,Tryz.ntmps22
 have hS0 : Fs w w [⟨p,#[.int .u64 b0,.int .u64 b1],24⟩] := ⟨fun x hx => by rcases List.mem_cons.1 hx with rfl | hx; exact hp; exact absurd hx List.not_mem_nil,Below.refl _ _⟩
 have hlp : p < w.heap.size := block_lt hp
 have hS := (hS0.alloc #[.int .i64 E,.int .i64 F] 23).alloc #[.nilIface,.nilIface] 67
 simp only [World.size_alloc] at hS
 clear hS0 hp
 have hmk := make_fl2
 obtain ⟨WV,hWV⟩ : ∃ x,(w.alloc (.cells #[.int .i64 E,.int .i64 F] 23)).alloc (.cells #[.nilIface,.nilIface] 67) = x := ⟨_,rfl⟩
 rw [hWV] at hS
 obtain ⟨⟨ya,yb,-⟩,⟨yc,yd,-⟩,⟨ye,yf,-⟩,-⟩ := hS.cells
 go_wp2
 clear hmk
 refine wp_loop_rounds 3 ?_
 rw [rounds_succ]
 have hlt0 : w.heap.size + 1 < WV.heap.size := block_lt (hS.bx ⟨w.heap.size + 1,#[.nilIface,.nilIface],67⟩ (by simp))
 go_wp2_with fail
 refine (unhide H0 _ ((unhide HT).kept hS.fr)).mono ?_
 rintro e w1 ⟨⟨t0,x0,rfl,f0⟩,hb1⟩
 replace hS := hS.kept hb1
 clear ya yb yc yd ye yf
 obtain ⟨⟨yg,yh,-⟩,⟨yi,yj,-⟩,⟨yk,yl,-⟩,-⟩ := hS.cells
 have G0 := hide (f0.mono (B' := w.heap.size + 2) hlt0)
 clear f0 hlt0
 obtain ⟨WS0,hWS0⟩ : ∃ x,w1.setCell ⟨w.heap.size + 1,0,none⟩ (.iface t0 x0) = x := ⟨_,rfl⟩
 have fzWS0 := hS.frozen (b := w.heap.size + 1) (cs := #[.nilIface,.nilIface]) (t := 67) (by simp) 0
 go_wp2
 replace hS := hS.put (b := w.heap.size + 1) (cs := #[.nilIface,.nilIface]) (t := 67) (by simp) (by simp) 0 (.iface t0 x0) [⟨w.heap.size + 1,#[.iface t0 x0,.nilIface],67⟩,⟨w.heap.size,#[.int .i64 E,.int .i64 F],23⟩,⟨p,#[.int .u64 b0,.int .u64 b1],24⟩] (by simp <;> omega)
 rw [hWS0] at hS
 replace G0 := hide (hWS0 ▸ (unhide G0).set (p := ⟨w.heap.size + 1,0,none⟩) (by show w.heap.size + 1 < w.heap.size + 2; omega) (.iface t0 x0))
 clear yg yh yi yj yk yl
 clear fzWS0
 obtain ⟨⟨ym,yn,-⟩,⟨yo,yp,-⟩,⟨yq,yr,-⟩,-⟩ := hS.cells
 rw [rounds_succ]
 have hlt1 : w.heap.size + 1 < WS0.heap.size := block_lt (hS.bx ⟨w.heap.size + 1,#[.iface t0 x0,.nilIface],67⟩ (by simp))
 go_wp2_with fail
 refine (unhide H1 _ ((unhide HT).kept hS.fr)).mono ?_
 rintro e w2 ⟨⟨t1,x1,rfl,f1⟩,hb2⟩
 replace hS := hS.kept hb2
 clear ym yn yo yp yq yr
 obtain ⟨⟨ys,yt,-⟩,⟨yu,yv,-⟩,⟨yw,yx,-⟩,-⟩ := hS.cells
 replace G0 := hide ((unhide G0).kept hb2)
 have G1 := hide (f1.mono (B' := w.heap.size + 2) hlt1)
 clear f1 hlt1
 obtain ⟨WS1,hWS1⟩ : ∃ x,w2.setCell ⟨w.heap.size + 1,1,none⟩ (.iface t1 x1) = x := ⟨_,rfl⟩
 have fzWS1 := hS.frozen (b := w.heap.size + 1) (cs := #[.iface t0 x0,.nilIface]) (t := 67) (by simp) 1
 go_wp2
 replace hS := hS.put (b := w.heap.size + 1) (cs := #[.iface t0 x0,.nilIface]) (t := 67) (by simp) (by simp) 1 (.iface t1 x1) [⟨w.heap.size + 1,#[.iface t0 x0,.iface t1 x1],67⟩,⟨w.heap.size,#[.int .i64 E,.int .i64 F],23⟩,⟨p,#[.int .u64 b0,.int .u64 b1],24⟩] (by simp <;> omega)
 rw [hWS1] at hS
 replace G0 := hide (hWS1 ▸ (unhide G0).set (p := ⟨w.heap.size + 1,1,none⟩) (by show w.heap.size + 1 < w.heap.size + 2; omega) (.iface t1 x1))
 replace G1 := hide (hWS1 ▸ (unhide G1).set (p := ⟨w.heap.size + 1,1,none⟩) (by show w.heap.size + 1 < w.heap.size + 2; omega) (.iface t1 x1))
 clear ys yt yu yv yw yx
 clear fzWS1
 obtain ⟨⟨yy,yz,-⟩,⟨y0,y1,-⟩,⟨y2,y3,-⟩,-⟩ := hS.cells
 rw [rounds_succ]
 go_wp2
 go_ret
 exact ⟨⟨_,t0,x0,t1,x1,rfl,by omega,hS.bx ⟨w.heap.size + 1,#[.iface t0 x0,.iface t1 x1],67⟩ (by simp),unhide G0,unhide G1⟩,hS.fr⟩
theorem run_as {T t : TypeId} {z v : Value} (hu : (Tryz.prog.underlying T).map (fun u => match u with | .interface _ => false | _ => true) = some true) (hz : (Tryz.prog.info? T).map (·.zero) = some (some z)) (ht : t ≠ T) (xT : TypeId) (w : World) :
  (Instr.typeAssert (.iface t v) xT T true).run Tryz.prog w = .ok (.tuple #[z,.bool false]) w := by
 obtain ⟨j,hj,hz'⟩ := Option.map_eq_some_iff.1 hz
 obtain ⟨u,hu1,hu2⟩ := Option.map_eq_some_iff.1 hu
 cases u <;> first | (exact Bool.noConfusion hu2) | simp [Instr.typeAssert,run_underlying hu1,zeroValue,typeInfo,hj,hz',ht]
theorem run_as_self {T : TypeId} {v : Value} (hu : (Tryz.prog.underlying T).map (fun u => match u with | .interface _ => false | _ => true) = some true) (xT : TypeId) (w : World) :
  (Instr.typeAssert (.iface T v) xT T true).run Tryz.prog w = .ok (.tuple #[v,.bool true]) w := by
 obtain ⟨u,hu1,hu2⟩ := Option.map_eq_some_iff.1 hu
 cases u <;> first | (exact Bool.noConfusion hu2) | simp [Instr.typeAssert,run_underlying hu1]
theorem as_none {t : TypeId} {v : Value} (ht : t ≠ 44) (xT : TypeId) (w : World) : (Instr.typeAssert (.iface t v) xT 44 true).run Tryz.prog w = .ok (.tuple #[.agg #[.int .u8 0],.bool false]) w := run_as (by kernel_rfl) (by kernel_rfl) ht xT w
theorem as_none_self {v : Value} (xT : TypeId) (w : World) : (Instr.typeAssert (.iface 44 v) xT 44 true).run Tryz.prog w = .ok (.tuple #[v,.bool true]) w := run_as_self (by kernel_rfl) xT w
theorem noNumber2_nn (q : Nat) (l0 g0 : Int) (l1 g1 : Int) (o0 : Go.bits .or .u8 0 l0 = g0) (o1 : Go.bits .or .u8 g0 l1 = g1) (w : World) (hq : w.heap[q]? = some (.cells #[.iface 44 (.agg #[.int .u8 l0]),.iface 44 (.agg #[.int .u8 l1])] 67 (0,0))) :
  Calls Tryz.prog 21 #[.slice (some ⟨q,0,none⟩) 2 2] w fun e w' => e = .returned (.tuple #[.agg #[.int .u8 g1],.bool true]) ∧ Below w.heap.size w w' := by
 go_enter Tryz.func21,Tryz.ntmps21
 have hS0 : Fs w w [⟨q,#[.iface 44 (.agg #[.int .u8 l0]),.iface 44 (.agg #[.int .u8 l1])],67⟩] := ⟨fun x hx => by rcases List.mem_cons.1 hx with rfl | hx; exact hq; exact absurd hx List.not_mem_nil,Below.refl _ _⟩
 have hlq : q < w.heap.size := block_lt hq
 have hS := hS0.alloc #[.int .u8 0] 44
 clear hS0 hq
 obtain ⟨⟨ya,-⟩,⟨yb,yc,-⟩,-⟩ := hS.cells
 have ha0 := as_none_self (v := .agg #[.int .u8 l0]) 67
 have ha1 := as_none_self (v := .agg #[.int .u8 l1]) 67
 obtain ⟨WB,hWB⟩ : ∃ x,w.alloc (.cells #[.int .u8 0] 44) = x := ⟨_,rfl⟩
 rw [hWB] at hS ya yb yc
 go_wp2
 refine wp_loop_rounds 3 ?_
 rw [rounds_succ]
 have hltWB_0 : w.heap.size < WB.heap.size := hS.lt 0 rfl
 have hltWB_1 : q < WB.heap.size := hS.lt 1 rfl
 obtain ⟨WV0,hWV0⟩ : ∃ WV0,WB.alloc (.cells #[.int .u8 l0] 44) = WV0 := ⟨_,rfl⟩
 replace hS := hS.alloc #[.int .u8 l0] 44
 rw [hWV0] at hS
 obtain ⟨⟨yd,-⟩,⟨ye,-⟩,⟨yf,yg,-⟩,-⟩ := hS.cells
 obtain ⟨WS0,hWS0⟩ : ∃ x,WV0.setCell ⟨w.heap.size,0,none⟩ (.int .u8 g0) = x := ⟨_,rfl⟩
 have fzWS0 := hS.frozen (b := w.heap.size) (cs := #[.int .u8 0]) (t := 44) (by simp) 0
 go_wp2
 replace hS := hS.put (b := w.heap.size) (cs := #[.int .u8 0]) (t := 44) (by simp) (by simp) 0 (.int .u8 g0) [⟨WB.heap.size,#[.int .u8 l0],44⟩,⟨w.heap.size,#[.int .u8 g0],44⟩,⟨q,#[.iface 44 (.agg #[.int .u8 l0]),.iface 44 (.agg #[.int .u8 l1])],67⟩] (by simp <;> omega)
 rw [hWS0] at hS
 clear yd ye yf yg ya yb yc
 clear fzWS0
 obtain ⟨⟨yh,-⟩,⟨yi,-⟩,⟨yj,yk,-⟩,-⟩ := hS.cells
 rw [rounds_succ]
 have hltWS0_0 : WB.heap.size < WS0.heap.size := hS.lt 0 rfl
 have hltWS0_1 : w.heap.size < WS0.heap.size := hS.lt 1 rfl
 have hltWS0_2 : q < WS0.heap.size := hS.lt 2 rfl
 obtain ⟨WV1,hWV1⟩ : ∃ WV1,WS0.alloc (.cells #[.int .u8 l1] 44) = WV1 := ⟨_,rfl⟩
 replace hS := hS.alloc #[.int .u8 l1] 44
 rw [hWV1] at hS
 obtain ⟨⟨yl,-⟩,⟨ym,-⟩,⟨yn,-⟩,⟨yo,yp,-⟩,-⟩ := hS.cells
 obtain ⟨WS1,hWS1⟩ : ∃ x,WV1.setCell ⟨w.heap.size,0,none⟩ (.int .u8 g1) = x := ⟨_,rfl⟩
 have fzWS1 := hS.frozen (b := w.heap.size) (cs := #[.int .u8 g0]) (t := 44) (by simp) 0
 go_wp2
 replace hS := hS.put (b := w.heap.size) (cs := #[.int .u8 g0]) (t := 44) (by simp) (by simp) 0 (.int .u8 g1) [⟨WS0.heap.size,#[.int .u8 l1],44⟩,⟨WB.heap.size,#[.int .u8 l0],44⟩,⟨w.heap.size,#[.int .u8 g1],44⟩,⟨q,#[.iface 44 (.agg #[.int .u8 l0]),.iface 44 (.agg #[.int .u8 l1])],67⟩] (by simp <;> omega)
 rw [hWS1] at hS
 clear yl ym yn yo yp yh yi yj yk
 clear fzWS1
 obtain ⟨⟨yq,-⟩,⟨yr,-⟩,⟨ys,-⟩,⟨yt,yu,-⟩,-⟩ := hS.cells
 rw [rounds_succ]
 have fz0 := hS.frozen (b := w.heap.size) (cs := #[.int .u8 g1]) (t := 44) (by simp) 0
 go_wp2
 exact bodyPost_ret (v := .tuple #[.agg #[.int .u8 g1],.bool true]) (by simp [results,Tryz.results21,go_sem,ys]) rfl ⟨rfl,hS.fr.setCell (by simp) _⟩
theorem noNumber2_no (q : Nat) (l0 g0 : Int) (t1 : TypeId) (x1 : Value) (o0 : Go.bits .or .u8 0 l0 = g0) (o1 : t1 ≠ 44) (w : World) (hq : w.heap[q]? = some (.cells #[.iface 44 (.agg #[.int .u8 l0]),.iface t1 x1] 67 (0,0))) :
  Calls Tryz.prog 21 #[.slice (some ⟨q,0,none⟩) 2 2] w fun e w' => e = .returned (.tuple #[.agg #[.int .u8 g0],.bool true]) ∧ Below w.heap.size w w' := by
 go_enter Tryz.func21,Tryz.ntmps21
 have hS0 : Fs w w [⟨q,#[.iface 44 (.agg #[.int .u8 l0]),.iface t1 x1],67⟩] := ⟨fun x hx => by rcases List.mem_cons.1 hx with rfl | hx; exact hq; exact absurd hx List.not_mem_nil,Below.refl _ _⟩
 have hlq : q < w.heap.size := block_lt hq
 have hS := hS0.alloc #[.int .u8 0] 44
 clear hS0 hq
 obtain ⟨⟨ya,-⟩,⟨yb,yc,-⟩,-⟩ := hS.cells
 have ha0 := as_none_self (v := .agg #[.int .u8 l0]) 67
 have ha1 := as_none (v := x1) o1 67
 obtain ⟨WB,hWB⟩ : ∃ x,w.alloc (.cells #[.int .u8 0] 44) = x := ⟨_,rfl⟩
 rw [hWB] at hS ya yb yc
 go_wp2
 refine wp_loop_rounds 3 ?_
 rw [rounds_succ]
 have hltWB_0 : w.heap.size < WB.heap.size := hS.lt 0 rfl
 have hltWB_1 : q < WB.heap.size := hS.lt 1 rfl
 obtain ⟨WV0,hWV0⟩ : ∃ WV0,WB.alloc (.cells #[.int .u8 l0] 44) = WV0 := ⟨_,rfl⟩
 replace hS := hS.alloc #[.int .u8 l0] 44
 rw [hWV0] at hS
 obtain ⟨⟨yd,-⟩,⟨ye,-⟩,⟨yf,yg,-⟩,-⟩ := hS.cells
 obtain ⟨WS0,hWS0⟩ : ∃ x,WV0.setCell ⟨w.heap.size,0,none⟩ (.int .u8 g0) = x := ⟨_,rfl⟩
 have fzWS0 := hS.frozen (b := w.heap.size) (cs := #[.int .u8 0]) (t := 44) (by simp) 0
 go_wp2
 replace hS := hS.put (b := w.heap.size) (cs := #[.int .u8 0]) (t := 44) (by simp) (by simp) 0 (.int .u8 g0) [⟨WB.heap.size,#[.int .u8 l0],44⟩,⟨w.heap.size,#[.int .u8 g0],44⟩,⟨q,#[.iface 44 (.agg #[.int .u8 l0]),.iface t1 x1],67⟩] (by simp <;> omega)
 rw [hWS0] at hS
 clear yd ye yf yg ya yb yc
 clear fzWS0
 obtain ⟨⟨yh,-⟩,⟨yi,-⟩,⟨yj,yk,-⟩,-⟩ := hS.cells
 rw [rounds_succ]
 go_wp2
 rw [rounds_succ]
 have fz0 := hS.frozen (b := w.heap.size) (cs := #[.int .u8 g0]) (t := 44) (by simp) 0
 go_wp2
 exact bodyPost_ret (v := .tuple #[.agg #[.int .u8 g0],.bool true]) (by simp [results,Tryz.results21,go_sem,yi]) rfl ⟨rfl,hS.fr.setCell (by simp) _⟩
theorem noNumber2_on (q : Nat) (t0 : TypeId) (x0 : Value) (l1 g1 : Int) (o0 : t0 ≠ 44) (o1 : Go.bits .or .u8 0 l1 = g1) (w : World) (hq : w.heap[q]? = some (.cells #[.iface t0 x0,.iface 44 (.agg #[.int .u8 l1])] 67 (0,0))) :
  Calls Tryz.prog 21 #[.slice (some ⟨q,0,none⟩) 2 2] w fun e w' => e = .returned (.tuple #[.agg #[.int .u8 g1],.bool true]) ∧ Below w.heap.size w w' := by
 go_enter Tryz.func21,Tryz.ntmps21
 have hS0 : Fs w w [⟨q,#[.iface t0 x0,.iface 44 (.agg #[.int .u8 l1])],67⟩] := ⟨fun x hx => by rcases List.mem_cons.1 hx with rfl | hx; exact hq; exact absurd hx List.not_mem_nil,Below.refl _ _⟩
 have hlq : q < w.heap.size := block_lt hq
 have hS := hS0.alloc #[.int .u8 0] 44
 clear hS0 hq
 obtain ⟨⟨ya,-⟩,⟨yb,yc,-⟩,-⟩ := hS.cells
 have ha0 := as_none (v := x0) o0 67
 have ha1 := as_none_self (v := .agg #[.int .u8 l1]) 67
 obtain ⟨WB,hWB⟩ : ∃ x,w.alloc (.cells #[.int .u8 0] 44) = x := ⟨_,rfl⟩
 rw [hWB] at hS ya yb yc
 go_wp2
 refine wp_loop_rounds 3 ?_
 rw [rounds_succ]
 go_wp2
 rw [rounds_succ]
 have hltWB_0 : w.heap.size < WB.heap.size := hS.lt 0 rfl
 have hltWB_1 : q < WB.heap.size := hS.lt 1 rfl
 obtain ⟨WV1,hWV1⟩ : ∃ WV1,WB.alloc (.cells #[.int .u8 l1] 44) = WV1 := ⟨_,rfl⟩
 replace hS := hS.alloc #[.int .u8 l1] 44
 rw [hWV1] at hS
 obtain ⟨⟨yd,-⟩,⟨ye,-⟩,⟨yf,yg,-⟩,-⟩ := hS.cells
 obtain ⟨WS1,hWS1⟩ : ∃ x,WV1.setCell ⟨w.heap.size,0,none⟩ (.int .u8 g1) = x := ⟨_,rfl⟩
 have fzWS1 := hS.frozen (b := w.heap.size) (cs := #[.int .u8 0]) (t := 44) (by simp) 0
 go_wp2
 replace hS := hS.put (b := w.heap.size) (cs := #[.int .u8 0]) (t := 44) (by simp) (by simp) 0 (.int .u8 g1) [⟨WB.heap.size,#[.int .u8 l1],44⟩,⟨w.heap.size,#[.int .u8 g1],44⟩,⟨q,#[.iface t0 x0,.iface 44 (.agg #[.int .u8 l1])],67⟩] (by simp <;> omega)
 rw [hWS1] at hS
 clear yd ye yf yg ya yb yc
 clear fzWS1
 obtain ⟨⟨yh,-⟩,⟨yi,-⟩,⟨yj,yk,-⟩,-⟩ := hS.cells
 rw [rounds_succ]
 have fz0 := hS.frozen (b := w.heap.size) (cs := #[.int .u8 g1]) (t := 44) (by simp) 0
 go_wp2
 exact bodyPost_ret (v := .tuple #[.agg #[.int .u8 g1],.bool true]) (by simp [results,Tryz.results21,go_sem,yi]) rfl ⟨rfl,hS.fr.setCell (by simp) _⟩
theorem noNumber2_oo (q : Nat) (t0 : TypeId) (x0 : Value) (t1 : TypeId) (x1 : Value) (o0 : t0 ≠ 44) (o1 : t1 ≠ 44) (w : World) (hq : w.heap[q]? = some (.cells #[.iface t0 x0,.iface t1 x1] 67 (0,0))) :
  Calls Tryz.prog 21 #[.slice (some ⟨q,0,none⟩) 2 2] w fun e w' => e = .returned (.tuple #[.agg #[.int .u8 0],.bool false]) ∧ Below w.heap.size w w' := by
 go_enter Tryz.func21,Tryz.ntmps21
 have hS0 : Fs w w [⟨q,#[.iface t0 x0,.iface t1 x1],67⟩] := ⟨fun x hx => by rcases List.mem_cons.1 hx with rfl | hx; exact hq; exact absurd hx List.not_mem_nil,Below.refl _ _⟩
 have hlq : q < w.heap.size := block_lt hq
 have hS := hS0.alloc #[.int .u8 0] 44
 clear hS0 hq
 obtain ⟨⟨ya,-⟩,⟨yb,yc,-⟩,-⟩ := hS.cells
 have ha0 := as_none (v := x0) o0 67
 have ha1 := as_none (v := x1) o1 67
 obtain ⟨WB,hWB⟩ : ∃ x,w.alloc (.cells #[.int .u8 0] 44) = x := ⟨_,rfl⟩
 rw [hWB] at hS ya yb yc
 go_wp2
 refine wp_loop_rounds 3 ?_
 rw [rounds_succ]
 go_wp2
 rw [rounds_succ]
 go_wp2
 rw [rounds_succ]
 have fz0 := hS.frozen (b := w.heap.size) (cs := #[.int .u8 0]) (t := 44) (by simp) 0
 go_wp2
 exact bodyPost_ret (v := .tuple #[.agg #[.int .u8 0],.bool false]) (by simp [results,Tryz.results21,go_sem,ya]) rfl ⟨rfl,hS.fr.setCell (by simp) _⟩
def Kd.isNan : Kd → Bool
 | .nan _ => true
 | _ => false
def nn2 : Kd → Kd → Int
 | .nan a,.nan b => Go.bits .or .u8 (Go.bits .or .u8 0 (a : Int)) (b : Int)
 | .nan a,_ => Go.bits .or .u8 0 (a : Int)
 | _,.nan b => Go.bits .or .u8 0 (b : Int)
 | _,_ => 0
theorem noNumber2 (q : Nat) (v0 v1 : Value) (k0 k1 : Kd) (B : Nat) (w : World) (hq : w.heap[q]? = some (.cells #[v0,v1] 67 (0,0))) (h0 : Flt w B v0 k0) (h1 : Flt w B v1 k1) :
  Calls Tryz.prog 21 #[.slice (some ⟨q,0,none⟩) 2 2] w fun e w' => e = .returned (.tuple #[.agg #[.int .u8 (nn2 k0 k1)],.bool (k0.isNan || k1.isNan)]) ∧ Below w.heap.size w w' := by
 cases k0 with
 | nan a =>
  obtain rfl := h0
  cases k1 with
  | nan b => obtain rfl := h1; exact noNumber2_nn q _ _ _ _ rfl rfl w hq
  | inf n f => obtain rfl := h1; exact noNumber2_no q _ _ _ _ rfl (by decide) w hq
  | zero n f => obtain rfl := h1; exact noNumber2_no q _ _ _ _ rfl (by decide) w hq
  | num s m x f => obtain ⟨A,N,C,rfl,_⟩ := h1; exact noNumber2_no q _ _ _ _ rfl (by decide) w hq
 | inf n f =>
  obtain rfl := h0
  cases k1 with
  | nan b => obtain rfl := h1; exact noNumber2_on q _ _ _ _ (by decide) rfl w hq
  | inf n f => obtain rfl := h1; exact noNumber2_oo q _ _ _ _ (by decide) (by decide) w hq
  | zero n f => obtain rfl := h1; exact noNumber2_oo q _ _ _ _ (by decide) (by decide) w hq
  | num s m x f => obtain ⟨A,N,C,rfl,_⟩ := h1; exact noNumber2_oo q _ _ _ _ (by decide) (by decide) w hq
 | zero n f =>
  obtain rfl := h0
  cases k1 with
  | nan b => obtain rfl := h1; exact noNumber2_on q _ _ _ _ (by decide) rfl w hq
  | inf n f => obtain rfl := h1; exact noNumber2_oo q _ _ _ _ (by decide) (by decide) w hq
  | zero n f => obtain rfl := h1; exact noNumber2_oo q _ _ _ _ (by decide) (by decide) w hq
  | num s m x f => obtain ⟨A,N,C,rfl,_⟩ := h1; exact noNumber2_oo q _ _ _ _ (by decide) (by decide) w hq
 | num s m x f =>
  obtain ⟨A,N,C,rfl,_⟩ := h0
  cases k1 with
  | nan b => obtain rfl := h1; exact noNumber2_on q _ _ _ _ (by decide) rfl w hq
  | inf n f => obtain rfl := h1; exact noNumber2_oo q _ _ _ _ (by decide) (by decide) w hq
  | zero n f => obtain rfl := h1; exact noNumber2_oo q _ _ _ _ (by decide) (by decide) w hq
  | num s m x f => obtain ⟨A,N,C,rfl,_⟩ := h1; exact noNumber2_oo q _ _ _ _ (by decide) (by decide) w hq
theorem below_1 (E F a b S : Int) (HS : Tel 14 #[.agg #[.int .i64 E,.int .i64 F]] (.int .u64 S)) (h : S ≤ a) (w : World)  :
  Calls Tryz.prog 24 #[.agg #[.int .i64 E,.int .i64 F],.int .u64 a,.int .u64 b] w fun e w' => e = .returned (.bool (decide (b < a))) ∧ Below w.heap.size w w' := by
 go_enter Tryz.func24,Tryz.ntmps24
 go_wp2_with fail
 refine (HS _).mono ?_
 rintro e w1 ⟨rfl,hb1⟩
 have hS := (Fs.one w _ _).kept hb1
 obtain ⟨⟨ya,yb,-⟩,-⟩ := hS.cells
 go_wp2
 go_ret
 exact ⟨by first | rfl | simp,hS.fr⟩
theorem below_2 (E F a b S : Int) (HS : Tel 14 #[.agg #[.int .i64 E,.int .i64 F]] (.int .u64 S)) (h : ¬ S ≤ a) (h2 : a < b) (w : World)  :
  Calls Tryz.prog 24 #[.agg #[.int .i64 E,.int .i64 F],.int .u64 a,.int .u64 b] w fun e w' => e = .returned (.bool (decide (b < S))) ∧ Below w.heap.size w w' := by
 go_enter Tryz.func24,Tryz.ntmps24
 go_wp2_with fail
 refine (HS _).mono ?_
 rintro e w1 ⟨rfl,hb1⟩
 have hS := (Fs.one w _ _).kept hb1
 obtain ⟨⟨ya,yb,-⟩,-⟩ := hS.cells
 go_wp2
 go_ret
 exact ⟨by first | rfl | simp,hS.fr⟩
theorem below_3 (E F a b S : Int) (HS : Tel 14 #[.agg #[.int .i64 E,.int .i64 F]] (.int .u64 S)) (h : ¬ S ≤ a) (h2 : ¬ a < b) (w : World)  :
  Calls Tryz.prog 24 #[.agg #[.int .i64 E,.int .i64 F],.int .u64 a,.int .u64 b] w fun e w' => e = .returned (.bool (false)) ∧ Below w.heap.size w w' := by
 go_enter Tryz.func24,Tryz.ntmps24
 go_wp2_with fail
 refine (HS _).mono ?_
 rintro e w1 ⟨rfl,hb1⟩
 have hS := (Fs.one w _ _).kept hb1
 obtain ⟨⟨ya,yb,-⟩,-⟩ := hS.cells
 go_wp2
 go_ret
 exact ⟨by first | rfl | simp,hS.fr⟩
def lesB (S a b : Int) : Bool := if S ≤ a then decide (b < a) else decide (a < b) && decide (b < S)
theorem below_any (E F a b S : Int) (HS : Tel 14 #[.agg #[.int .i64 E,.int .i64 F]] (.int .u64 S)) : Tel 24 #[.agg #[.int .i64 E,.int .i64 F],.int .u64 a,.int .u64 b] (.bool (lesB S a b)) := by
 intro W
 unfold lesB
 by_cases h : S ≤ a
 ·rw [if_pos h]; exact below_1 E F a b S HS h W
 ·rw [if_neg h]
  by_cases h2 : a < b
  ·rw [decide_eq_true h2,Bool.true_and]; exact below_2 E F a b S HS h h2 W
  ·rw [decide_eq_false h2,Bool.false_and]; exact below_3 E F a b S HS h h2 W
theorem inOrder_err1 (E F a b : Int) (c : Int) (hc : (c == (0 : Int)) = false) (H0 : Tel 19 #[.agg #[.int .i64 E,.int .i64 F],.int .u64 a] (.int .i64 c)) (w : World)  :
  Calls Tryz.prog 17 #[.agg #[.int .i64 E,.int .i64 F],.int .u64 a,.int .u64 b] w fun e w' => e = .returned (.tuple #[.int .u64 0,.int .u64 0,.int .i64 c]) ∧ Below w.heap.size w w' := by
 go_enter Tryz.func17,Tryz.ntmps17
 go_wp2_with fail
 refine (scheck2_err1 E F c hc _ a b H0 _ (by have := heap_alloc_new (w.alloc (.cells #[.int .i64 E,.int .i64 F] 23)) (.cells #[.int .u64 a,.int .u64 b] 24); simpa only [World.size_alloc] using this)).mono ?_
 rintro e w1 ⟨rfl,hb1⟩
 have hS : Fs w (w.alloc (.cells #[.int .i64 E,.int .i64 F] 23)) [⟨w.heap.size,#[.int .i64 E,.int .i64 F],23⟩] := Fs.one w _ _
 replace hS := ((hS.alloc #[.int .u64 a,.int .u64 b] 24).kept hb1).sub (fun x hx => List.mem_cons_of_mem _ hx)
 obtain ⟨⟨ya,yb,-⟩,-⟩ := hS.cells
 go_wp2
 go_ret3
 exact ⟨rfl,hS.fr⟩
theorem inOrder_err2 (E F a b : Int) (c : Int) (hc : (c == (0 : Int)) = false) (H0 : Tel 19 #[.agg #[.int .i64 E,.int .i64 F],.int .u64 a] (.int .i64 0)) (H1 : Tel 19 #[.agg #[.int .i64 E,.int .i64 F],.int .u64 b] (.int .i64 c)) (w : World)  :
  Calls Tryz.prog 17 #[.agg #[.int .i64 E,.int .i64 F],.int .u64 a,.int .u64 b] w fun e w' => e = .returned (.tuple #[.int .u64 0,.int .u64 0,.int .i64 c]) ∧ Below w.heap.size w w' := by
 go_enter Tryz.func17,Tryz.ntmps17
 go_wp2_with fail
 refine (scheck2_err2 E F c hc _ a b H0 H1 _ (by have := heap_alloc_new (w.alloc (.cells #[.int .i64 E,.int .i64 F] 23)) (.cells #[.int .u64 a,.int .u64 b] 24); simpa only [World.size_alloc] using this)).mono ?_
 rintro e w1 ⟨rfl,hb1⟩
 have hS : Fs w (w.alloc (.cells #[.int .i64 E,.int .i64 F] 23)) [⟨w.heap.size,#[.int .i64 E,.int .i64 F],23⟩] := Fs.one w _ _
 replace hS := ((hS.alloc #[.int .u64 a,.int .u64 b] 24).kept hb1).sub (fun x hx => List.mem_cons_of_mem _ hx)
 obtain ⟨⟨ya,yb,-⟩,-⟩ := hS.cells
 go_wp2
 go_ret3
 exact ⟨rfl,hS.fr⟩
theorem inOrder_nan (E F a b : Int) (H0 : Tel 19 #[.agg #[.int .i64 E,.int .i64 F],.int .u64 a] (.int .i64 0)) (H1 : Tel 19 #[.agg #[.int .i64 E,.int .i64 F],.int .u64 b] (.int .i64 0)) (k0 k1 : Kd) (HA : Hid (FlOf E F a k0)) (HB : Hid (FlOf E F b k1)) (hr : (k0.isNan || k1.isNan) = true) (n : Int) (HM : Tel 23 #[.agg #[.int .i64 E,.int .i64 F],.bool false,.int .u64 0] (.tuple #[.int .u64 n,.int .i64 0])) (w : World) (hT : Tb w) :
  Calls Tryz.prog 17 #[.agg #[.int .i64 E,.int .i64 F],.int .u64 a,.int .u64 b] w fun e w' => e = .returned (.tuple #[.int .u64 n,.int .u64 n,.int .i64 0]) ∧ Below w.heap.size w w' := by
 have HT := hide hT
 have HN : Hid (∀ (q : Nat) (v0 v1 : Value) (B : Nat) (W : World),W.heap[q]? = some (.cells #[v0,v1] 67 (0,0)) → Flt W B v0 k0 → Flt W B v1 k1 → Calls Tryz.prog 21 #[.slice (some ⟨q,0,none⟩) 2 2] W fun e w' => e = .returned (.tuple #[.agg #[.int .u8 (nn2 k0 k1)],.bool true]) ∧ Below W.heap.size W w') := hide (fun q v0 v1 B W h1 h2 h3 => by have := noNumber2 q v0 v1 k0 k1 B W h1 h2 h3; rw [hr] at this; exact this)
 obtain ⟨fl,hfl⟩ : ∃ fl,nn2 k0 k1 = fl := ⟨_,rfl⟩
 rw [hfl] at HN
 clear hT hr hfl
 go_enter Tryz.func17,Tryz.ntmps17
 go_wp2_with fail
 refine (scheck2_ok E F _ a b H0 H1 _ (by have := heap_alloc_new (w.alloc (.cells #[.int .i64 E,.int .i64 F] 23)) (.cells #[.int .u64 a,.int .u64 b] 24); simpa only [World.size_alloc] using this)).mono ?_
 rintro e w1 ⟨rfl,hb1⟩
 have hS : Fs w (w.alloc (.cells #[.int .i64 E,.int .i64 F] 23)) [⟨w.heap.size,#[.int .i64 E,.int .i64 F],23⟩] := Fs.one w _ _
 replace hS := ((hS.alloc #[.int .u64 a,.int .u64 b] 24).kept hb1).sub (fun x hx => List.mem_cons_of_mem _ hx)
 obtain ⟨⟨ya,yb,-⟩,-⟩ := hS.cells
 go_wp2_with fail
 have hA2 := (hS.alloc #[.int .u64 a,.int .u64 b] 24).sub (fun x hx => List.mem_cons_of_mem _ hx)
 refine (floatsOf2 E F _ a b k0 k1 HA HB _ ((unhide HT).kept hA2.fr) (by have := heap_alloc_new w1 (.cells #[.int .u64 a,.int .u64 b] 24); simpa only [World.size_alloc] using this)).mono ?_
 rintro e w2 ⟨⟨q,t0,x0,t1,x1,rfl,-,hq,g0,g1⟩,hb2⟩
 replace hS := hA2.kept hb2
 clear hA2
 clear ya yb
 obtain ⟨⟨yc,yd,-⟩,-⟩ := hS.cells
 have G0 := hide g0
 have G1 := hide g1
 have HQ := hide hq
 clear g0 g1 hq
 go_wp2_with fail
 refine (unhide HN _ _ _ _ _ (unhide HQ) (unhide G0) (unhide G1)).mono ?_
 rintro e w3 ⟨rfl,hb3⟩
 replace hS := hS.kept hb3
 clear yc yd
 obtain ⟨⟨ye,yf,-⟩,-⟩ := hS.cells
 clear HQ G0 G1
 have hltw3_0 : w.heap.size < w3.heap.size := hS.lt 0 rfl
 obtain ⟨WV,hWV⟩ : ∃ WV,w3.alloc (.cells #[.int .u8 fl] 44) = WV := ⟨_,rfl⟩
 replace hS := hS.alloc #[.int .u8 fl] 44
 rw [hWV] at hS
 clear ye yf
 obtain ⟨⟨yg,-⟩,⟨yh,yi,-⟩,-⟩ := hS.cells
 go_wp2_with fail
 refine (HM _).mono ?_
 rintro e w4 ⟨rfl,hb4⟩
 replace hS := hS.kept hb4
 clear yg yh yi
 obtain ⟨⟨yj,-⟩,⟨yk,yl,-⟩,-⟩ := hS.cells
 go_wp2
 go_ret3
 exact ⟨rfl,hS.fr⟩
theorem inOrder_true (E F a b : Int) (H0 : Tel 19 #[.agg #[.int .i64 E,.int .i64 F],.int .u64 a] (.int .i64 0)) (H1 : Tel 19 #[.agg #[.int .i64 E,.int .i64 F],.int .u64 b] (.int .i64 0)) (k0 k1 : Kd) (HA : Hid (FlOf E F a k0)) (HB : Hid (FlOf E F b k1)) (hr : (k0.isNan || k1.isNan) = false) (HL : Tel 24 #[.agg #[.int .i64 E,.int .i64 F],.int .u64 a,.int .u64 b] (.bool true)) (w : World) (hT : Tb w) :
  Calls Tryz.prog 17 #[.agg #[.int .i64 E,.int .i64 F],.int .u64 a,.int .u64 b] w fun e w' => e = .returned (.tuple #[.int .u64 a,.int .u64 b,.int .i64 0]) ∧ Below w.heap.size w w' := by
 have HT := hide hT
 have HN : Hid (∀ (q : Nat) (v0 v1 : Value) (B : Nat) (W : World),W.heap[q]? = some (.cells #[v0,v1] 67 (0,0)) → Flt W B v0 k0 → Flt W B v1 k1 → Calls Tryz.prog 21 #[.slice (some ⟨q,0,none⟩) 2 2] W fun e w' => e = .returned (.tuple #[.agg #[.int .u8 (nn2 k0 k1)],.bool false]) ∧ Below W.heap.size W w') := hide (fun q v0 v1 B W h1 h2 h3 => by have := noNumber2 q v0 v1 k0 k1 B W h1 h2 h3; rw [hr] at this; exact this)
 obtain ⟨fl,hfl⟩ : ∃ fl,nn2 k0 k1 = fl := ⟨_,rfl⟩
 rw [hfl] at HN
 clear hT hr hfl
 go_enter Tryz.func17,Tryz.ntmps17
 go_wp2_with fail
 refine (scheck2_ok E F _ a b H0 H1 _ (by have := heap_alloc_new (w.alloc (.cells #[.int .i64 E,.int .i64 F] 23)) (.cells #[.int .u64 a,.int .u64 b] 24); simpa only [World.size_alloc] using this)).mono ?_
 rintro e w1 ⟨rfl,hb1⟩
 have hS : Fs w (w.alloc (.cells #[.int .i64 E,.int .i64 F] 23)) [⟨w.heap.size,#[.int .i64 E,.int .i64 F],23⟩] := Fs.one w _ _
 replace hS := ((hS.alloc #[.int .u64 a,.int .u64 b] 24).kept hb1).sub (fun x hx => List.mem_cons_of_mem _ hx)
 obtain ⟨⟨ya,yb,-⟩,-⟩ := hS.cells
 go_wp2_with fail
 have hA2 := (hS.alloc #[.int .u64 a,.int .u64 b] 24).sub (fun x hx => List.mem_cons_of_mem _ hx)
 refine (floatsOf2 E F _ a b k0 k1 HA HB _ ((unhide HT).kept hA2.fr) (by have := heap_alloc_new w1 (.cells #[.int .u64 a,.int .u64 b] 24); simpa only [World.size_alloc] using this)).mono ?_
 rintro e w2 ⟨⟨q,t0,x0,t1,x1,rfl,-,hq,g0,g1⟩,hb2⟩
 replace hS := hA2.kept hb2
 clear hA2
 clear ya yb
 obtain ⟨⟨yc,yd,-⟩,-⟩ := hS.cells
 have G0 := hide g0
 have G1 := hide g1
 have HQ := hide hq
 clear g0 g1 hq
 go_wp2_with fail
 refine (unhide HN _ _ _ _ _ (unhide HQ) (unhide G0) (unhide G1)).mono ?_
 rintro e w3 ⟨rfl,hb3⟩
 replace hS := hS.kept hb3
 clear yc yd
 obtain ⟨⟨ye,yf,-⟩,-⟩ := hS.cells
 clear HQ G0 G1
 have hltw3_0 : w.heap.size < w3.heap.size := hS.lt 0 rfl
 obtain ⟨WV,hWV⟩ : ∃ WV,w3.alloc (.cells #[.int .u8 fl] 44) = WV := ⟨_,rfl⟩
 replace hS := hS.alloc #[.int .u8 fl] 44
 rw [hWV] at hS
 clear ye yf
 obtain ⟨⟨yg,-⟩,⟨yh,yi,-⟩,-⟩ := hS.cells
 go_wp2_with fail
 refine (HL _).mono ?_
 rintro e w4 ⟨rfl,hb4⟩
 replace hS := hS.kept hb4
 clear yg yh yi
 obtain ⟨⟨yj,-⟩,⟨yk,yl,-⟩,-⟩ := hS.cells
 go_wp2
 go_ret3
 exact ⟨rfl,hS.fr⟩
theorem inOrder_false (E F a b : Int) (H0 : Tel 19 #[.agg #[.int .i64 E,.int .i64 F],.int .u64 a] (.int .i64 0)) (H1 : Tel 19 #[.agg #[.int .i64 E,.int .i64 F],.int .u64 b] (.int .i64 0)) (k0 k1 : Kd) (HA : Hid (FlOf E F a k0)) (HB : Hid (FlOf E F b k1)) (hr : (k0.isNan || k1.isNan) = false) (HL : Tel 24 #[.agg #[.int .i64 E,.int .i64 F],.int .u64 a,.int .u64 b] (.bool false)) (w : World) (hT : Tb w) :
  Calls Tryz.prog 17 #[.agg #[.int .i64 E,.int .i64 F],.int .u64 a,.int .u64 b] w fun e w' => e = .returned (.tuple #[.int .u64 b,.int .u64 a,.int .i64 0]) ∧ Below w.heap.size w w' := by
 have HT := hide hT
 have HN : Hid (∀ (q : Nat) (v0 v1 : Value) (B : Nat) (W : World),W.heap[q]? = some (.cells #[v0,v1] 67 (0,0)) → Flt W B v0 k0 → Flt W B v1 k1 → Calls Tryz.prog 21 #[.slice (some ⟨q,0,none⟩) 2 2] W fun e w' => e = .returned (.tuple #[.agg #[.int .u8 (nn2 k0 k1)],.bool false]) ∧ Below W.heap.size W w') := hide (fun q v0 v1 B W h1 h2 h3 => by have := noNumber2 q v0 v1 k0 k1 B W h1 h2 h3; rw [hr] at this; exact this)
 obtain ⟨fl,hfl⟩ : ∃ fl,nn2 k0 k1 = fl := ⟨_,rfl⟩
 rw [hfl] at HN
 clear hT hr hfl
 go_enter Tryz.func17,Tryz.ntmps17
 go_wp2_with fail
 refine (scheck2_ok E F _ a b H0 H1 _ (by have := heap_alloc_new (w.alloc (.cells #[.int .i64 E,.int .i64 F] 23)) (.cells #[.int .u64 a,.int .u64 b] 24); simpa only [World.size_alloc] using this)).mono ?_
 rintro e w1 ⟨rfl,hb1⟩
 have hS : Fs w (w.alloc (.cells #[.int .i64 E,.int .i64 F] 23)) [⟨w.heap.size,#[.int .i64 E,.int .i64 F],23⟩] := Fs.one w _ _
 replace hS := ((hS.alloc #[.int .u64 a,.int .u64 b] 24).kept hb1).sub (fun x hx => List.mem_cons_of_mem _ hx)
 obtain ⟨⟨ya,yb,-⟩,-⟩ := hS.cells
 go_wp2_with fail
 have hA2 := (hS.alloc #[.int .u64 a,.int .u64 b] 24).sub (fun x hx => List.mem_cons_of_mem _ hx)
 refine (floatsOf2 E F _ a b k0 k1 HA HB _ ((unhide HT).kept hA2.fr) (by have := heap_alloc_new w1 (.cells #[.int .u64 a,.int .u64 b] 24); simpa only [World.size_alloc] using this)).mono ?_
 rintro e w2 ⟨⟨q,t0,x0,t1,x1,rfl,-,hq,g0,g1⟩,hb2⟩
 replace hS := hA2.kept hb2
 clear hA2
 clear ya yb
 obtain ⟨⟨yc,yd,-⟩,-⟩ := hS.cells
 have G0 := hide g0
 have G1 := hide g1
 have HQ := hide hq
 clear g0 g1 hq
 go_wp2_with fail
 refine (unhide HN _ _ _ _ _ (unhide HQ) (unhide G0) (unhide G1)).mono ?_
 rintro e w3 ⟨rfl,hb3⟩
 replace hS := hS.kept hb3
 clear yc yd
 obtain ⟨⟨ye,yf,-⟩,-⟩ := hS.cells
 clear HQ G0 G1
 have hltw3_0 : w.heap.size < w3.heap.size := hS.lt 0 rfl
 obtain ⟨WV,hWV⟩ : ∃ WV,w3.alloc (.cells #[.int .u8 fl] 44) = WV := ⟨_,rfl⟩
 replace hS := hS.alloc #[.int .u8 fl] 44
 rw [hWV] at hS
 clear ye yf
 obtain ⟨⟨yg,-⟩,⟨yh,yi,-⟩,-⟩ := hS.cells
 go_wp2_with fail
 refine (HL _).mono ?_
 rintro e w4 ⟨rfl,hb4⟩
 replace hS := hS.kept hb4
 clear yg yh yi
 obtain ⟨⟨yj,-⟩,⟨yk,yl,-⟩,-⟩ := hS.cells
 go_wp2
 go_ret3
 exact ⟨rfl,hS.fr⟩
theorem sMin_is (E F a b x y z : Int) (H : Hid (∀ W : World,Tb W → Calls Tryz.prog 17 #[.agg #[.int .i64 E,.int .i64 F],.int .u64 a,.int .u64 b] W fun e w' => e = .returned (.tuple #[.int .u64 x,.int .u64 y,.int .i64 z]) ∧ Below W.heap.size W w')) (w : World) (hT : Tb w) :
  Calls Tryz.prog 9 #[.agg #[.int .i64 E,.int .i64 F],.int .u64 a,.int .u64 b] w fun e w' => e = .returned (.tuple #[.int .u64 x,.int .i64 z]) ∧ Below w.heap.size w w' := by
 have HT := hide hT
 clear hT
 go_enter Tryz.func9,Tryz.ntmps9
 go_wp2_with fail
 refine (unhide H _ ((unhide HT).kept (Fs.one w _ _).fr)).mono ?_
 rintro e w1 ⟨rfl,hb1⟩
 have hS := (Fs.one w _ _).kept hb1
 obtain ⟨⟨ya,yb,-⟩,-⟩ := hS.cells
 go_wp2
 go_ret2
 exact ⟨rfl,hS.fr⟩
theorem sMax_is (E F a b x y z : Int) (H : Hid (∀ W : World,Tb W → Calls Tryz.prog 17 #[.agg #[.int .i64 E,.int .i64 F],.int .u64 a,.int .u64 b] W fun e w' => e = .returned (.tuple #[.int .u64 x,.int .u64 y,.int .i64 z]) ∧ Below W.heap.size W w')) (w : World) (hT : Tb w) :
  Calls Tryz.prog 11 #[.agg #[.int .i64 E,.int .i64 F],.int .u64 a,.int .u64 b] w fun e w' => e = .returned (.tuple #[.int .u64 y,.int .i64 z]) ∧ Below w.heap.size w w' := by
 have HT := hide hT
 clear hT
 go_enter Tryz.func11,Tryz.ntmps11
 go_wp2_with fail
 refine (unhide H _ ((unhide HT).kept (Fs.one w _ _).fr)).mono ?_
 rintro e w1 ⟨rfl,hb1⟩
 have hS := (Fs.one w _ _).kept hb1
 obtain ⟨⟨ya,yb,-⟩,-⟩ := hS.cells
 go_wp2
 go_ret2
 exact ⟨rfl,hS.fr⟩
theorem pair_is (x y : Int) (w : World)  :
  Calls Tryz.prog 4 #[.int .u64 x,.int .i64 y] w fun e w' => e = .returned (.agg #[.int .u64 x,.int .u8 0,.int .i64 y]) ∧ Below w.heap.size w w' := by
 go_enter Tryz.func4,Tryz.ntmps4
 go_wp2
 exact bodyPost_ret (v := .agg #[.int .u64 x,.int .u8 0,.int .i64 y]) (by simp [results,Tryz.results4,go_sem]) rfl ⟨rfl,(Fs.one w _ _).fr⟩
theorem picks_law (E F a b x1 e1 x2 e2 x3 e3 x4 e4 : Int) (Hs1 : Tel 5 #[.agg #[.int .i64 E,.int .i64 F],.int .u64 a] (.tuple #[.int .u64 x1,.int .i64 e1])) (Hr1 : Tel 6 #[.agg #[.int .i64 E,.int .i64 F],.int .u64 a] (.tuple #[.int .u64 x1,.int .i64 e1])) (Hs2 : Tel 7 #[.agg #[.int .i64 E,.int .i64 F],.int .u64 a] (.tuple #[.int .u64 x2,.int .i64 e2])) (Hr2 : Tel 8 #[.agg #[.int .i64 E,.int .i64 F],.int .u64 a] (.tuple #[.int .u64 x2,.int .i64 e2])) (Hs3 : Hid (∀ W : World,Tb W → Calls Tryz.prog 9 #[.agg #[.int .i64 E,.int .i64 F],.int .u64 a,.int .u64 b] W fun e w' => e = .returned (.tuple #[.int .u64 x3,.int .i64 e3]) ∧ Below W.heap.size W w')) (Hr3 : Tel 10 #[.agg #[.int .i64 E,.int .i64 F],.int .u64 a,.int .u64 b] (.tuple #[.int .u64 x3,.int .i64 e3])) (Hs4 : Hid (∀ W : World,Tb W → Calls Tryz.prog 11 #[.agg #[.int .i64 E,.int .i64 F],.int .u64 a,.int .u64 b] W fun e w' => e = .returned (.tuple #[.int .u64 x4,.int .i64 e4]) ∧ Below W.heap.size W w')) (Hr4 : Tel 12 #[.agg #[.int .i64 E,.int .i64 F],.int .u64 a,.int .u64 b] (.tuple #[.int .u64 x4,.int .i64 e4]))  (w : World) (hT : Tb w) :
  Calls Tryz.prog 3 #[.agg #[.int .i64 E,.int .i64 F],.int .u64 a,.int .u64 b] w fun e w' => e = .returned (.bool true) ∧ Below w.heap.size w w' := by
 have HT := hide hT
 clear hT
 go_enter Tryz.func3,Tryz.ntmps3
 go_wp2_with fail
 refine wp_region_any (by kernel_rfl) ?_
 refine wpAny_det [some (11,.agg #[.int .i64 E,.int .i64 F]),some (12,.int .u64 a),some (13,.tuple #[.int .u64 x1,.int .i64 e1]),some (14,.int .u64 x1),some (15,.int .i64 e1),some (16,.agg #[.int .u64 x1,.int .u8 0,.int .i64 e1]),some (17,.agg #[.int .i64 E,.int .i64 F]),some (18,.int .u64 a),some (19,.tuple #[.int .u64 x1,.int .i64 e1]),some (20,.int .u64 x1),some (21,.int .i64 e1),some (22,.agg #[.int .u64 x1,.int .u8 0,.int .i64 e1]),some (23,.bool true),some (7,.bool true)]
  (fun _ W9 => Fs w W9 [⟨w.heap.size,#[.int .i64 E,.int .i64 F],23⟩]) _ _ rfl (by kernel_rfl) rfl rfl ?_ ?_ (Fs.one w _ _).drew
 ·intro l9 t9 W9 i9 hD hi9 hl9 hM
  obtain ⟨o9,ho9,hd9⟩ := (mem_ready.1 hi9).2
  have hin9 : i9 < 14 := by
   by_cases h : i9 < 14
   ·exact h
   ·rw [Array.getElem?_eq_none (by rw [hD.len]; simp; omega)] at hl9; cases hl9
  have hcase : i9 = 0 ∨ i9 = 1 ∨ i9 = 2 ∨ i9 = 3 ∨ i9 = 4 ∨ i9 = 5 ∨ i9 = 6 ∨ i9 = 7 ∨ i9 = 8 ∨ i9 = 9 ∨ i9 = 10 ∨ i9 = 11 ∨ i9 = 12 ∨ i9 = 13 := by omega
  clear hin9
  rcases hcase with rfl | rfl | rfl | rfl | rfl | rfl | rfl | rfl | rfl | rfl | rfl | rfl | rfl | rfl
  ·cases ho9
   have r3 := hD.old 3 _ rfl rfl
   have hM0 := hM
   have Q_ := hM0.cellAt (b := w.heap.size) (cs := #[.int .i64 E,.int .i64 F]) (t := 23) (by simp)
   have c9_0 := Q_ 0 _ rfl
   have c9_1 := Q_ 1 _ rfl
   clear Q_
   clear hM0
   refine wpOp_step rfl fun K hK => ?_
   go_simp
   exact hK _ _ ⟨rfl,hM⟩
  ·cases ho9
   have r1 := hD.old 1 _ rfl rfl
   refine wpOp_step rfl fun K hK => ?_
   go_simp
   exact hK _ _ ⟨rfl,hM⟩
  ·cases ho9
   have r11 := hD.od hd9 0 11 _ rfl (by simp)
   have r12 := hD.od hd9 1 12 _ rfl (by simp)
   refine wpOp_step rfl fun K hK => ?_
   go_simp
   go_wp2_with fail
   refine (Hs1 _).mono ?_
   rintro en w9 ⟨rfl,hb9⟩
   exact hK _ _ ⟨rfl,hM.kept hb9⟩
  ·cases ho9
   have r13 := hD.od hd9 2 13 _ rfl (by simp)
   refine wpOp_step rfl fun K hK => ?_
   go_simp
   exact hK _ _ ⟨rfl,hM⟩
  ·cases ho9
   have r13 := hD.od hd9 2 13 _ rfl (by simp)
   refine wpOp_step rfl fun K hK => ?_
   go_simp
   exact hK _ _ ⟨rfl,hM⟩
  ·cases ho9
   have r14 := hD.od hd9 3 14 _ rfl (by simp)
   have r15 := hD.od hd9 4 15 _ rfl (by simp)
   refine wpOp_step rfl fun K hK => ?_
   go_simp
   go_wp2_with fail
   refine (pair_is _ _ _).mono ?_
   rintro en w9 ⟨rfl,hb9⟩
   exact hK _ _ ⟨rfl,hM.kept hb9⟩
  ·cases ho9
   have r3 := hD.old 3 _ rfl rfl
   have hM0 := hM
   have Q_ := hM0.cellAt (b := w.heap.size) (cs := #[.int .i64 E,.int .i64 F]) (t := 23) (by simp)
   have c9_0 := Q_ 0 _ rfl
   have c9_1 := Q_ 1 _ rfl
   clear Q_
   clear hM0
   refine wpOp_step rfl fun K hK => ?_
   go_simp
   exact hK _ _ ⟨rfl,hM⟩
  ·cases ho9
   have r1 := hD.old 1 _ rfl rfl
   refine wpOp_step rfl fun K hK => ?_
   go_simp
   exact hK _ _ ⟨rfl,hM⟩
  ·cases ho9
   have r17 := hD.od hd9 6 17 _ rfl (by simp)
   have r18 := hD.od hd9 7 18 _ rfl (by simp)
   refine wpOp_step rfl fun K hK => ?_
   go_simp
   go_wp2_with fail
   refine (Hr1 _).mono ?_
   rintro en w9 ⟨rfl,hb9⟩
   exact hK _ _ ⟨rfl,hM.kept hb9⟩
  ·cases ho9
   have r19 := hD.od hd9 8 19 _ rfl (by simp)
   refine wpOp_step rfl fun K hK => ?_
   go_simp
   exact hK _ _ ⟨rfl,hM⟩
  ·cases ho9
   have r19 := hD.od hd9 8 19 _ rfl (by simp)
   refine wpOp_step rfl fun K hK => ?_
   go_simp
   exact hK _ _ ⟨rfl,hM⟩
  ·cases ho9
   have r20 := hD.od hd9 9 20 _ rfl (by simp)
   have r21 := hD.od hd9 10 21 _ rfl (by simp)
   refine wpOp_step rfl fun K hK => ?_
   go_simp
   go_wp2_with fail
   refine (pair_is _ _ _).mono ?_
   rintro en w9 ⟨rfl,hb9⟩
   exact hK _ _ ⟨rfl,hM.kept hb9⟩
  ·cases ho9
   have r16 := hD.od hd9 5 16 _ rfl (by simp)
   have r22 := hD.od hd9 11 22 _ rfl (by simp)
   refine wpOp_step rfl fun K hK => ?_
   go_simp
   exact hK _ _ ⟨act_eq (by first | rfl | simp),hM⟩
  ·cases ho9
   have r23 := hD.od hd9 12 23 _ rfl (by simp)
   refine wpOp_step rfl fun K hK => ?_
   go_simp
   exact hK _ _ ⟨rfl,hM⟩
 ·intro l9 W9 hl9 hM
  have hS := hM
  clear hM
  simp only [Puts.lay,List.setIfInBounds_toArray,List.set_cons_zero,List.set_cons_succ]
  obtain ⟨⟨ya,yb,-⟩,-⟩ := hS.cells
  go_wp2_with fail
  refine wp_region_any (by kernel_rfl) ?_
  refine wpAny_det [some (24,.agg #[.int .i64 E,.int .i64 F]),some (25,.int .u64 a),some (26,.tuple #[.int .u64 x2,.int .i64 e2]),some (27,.int .u64 x2),some (28,.int .i64 e2),some (29,.agg #[.int .u64 x2,.int .u8 0,.int .i64 e2]),some (30,.agg #[.int .i64 E,.int .i64 F]),some (31,.int .u64 a),some (32,.tuple #[.int .u64 x2,.int .i64 e2]),some (33,.int .u64 x2),some (34,.int .i64 e2),some (35,.agg #[.int .u64 x2,.int .u8 0,.int .i64 e2]),some (36,.bool true),some (8,.bool true)]
   (fun _ W9 => Fs w W9 [⟨w.heap.size,#[.int .i64 E,.int .i64 F],23⟩]) _ _ rfl (by kernel_rfl) rfl rfl ?_ ?_ (hS).drew
  ·intro l9 t9 W9 i9 hD hi9 hl9 hM
   obtain ⟨o9,ho9,hd9⟩ := (mem_ready.1 hi9).2
   have hin9 : i9 < 14 := by
    by_cases h : i9 < 14
    ·exact h
    ·rw [Array.getElem?_eq_none (by rw [hD.len]; simp; omega)] at hl9; cases hl9
   have hcase : i9 = 0 ∨ i9 = 1 ∨ i9 = 2 ∨ i9 = 3 ∨ i9 = 4 ∨ i9 = 5 ∨ i9 = 6 ∨ i9 = 7 ∨ i9 = 8 ∨ i9 = 9 ∨ i9 = 10 ∨ i9 = 11 ∨ i9 = 12 ∨ i9 = 13 := by omega
   clear hin9
   rcases hcase with rfl | rfl | rfl | rfl | rfl | rfl | rfl | rfl | rfl | rfl | rfl | rfl | rfl | rfl
   ·cases ho9
    have r3 := hD.old 3 _ rfl rfl
    have hM0 := hM
    have Q_ := hM0.cellAt (b := w.heap.size) (cs := #[.int .i64 E,.int .i64 F]) (t := 23) (by simp)
    have c9_0 := Q_ 0 _ rfl
    have c9_1 := Q_ 1 _ rfl
    clear Q_
    clear hM0
    refine wpOp_step rfl fun K hK => ?_
    go_simp
    exact hK _ _ ⟨rfl,hM⟩
   ·cases ho9
    have r1 := hD.old 1 _ rfl rfl
    refine wpOp_step rfl fun K hK => ?_
    go_simp
    exact hK _ _ ⟨rfl,hM⟩
   ·cases ho9
    have r24 := hD.od hd9 0 24 _ rfl (by simp)
    have r25 := hD.od hd9 1 25 _ rfl (by simp)
    refine wpOp_step rfl fun K hK => ?_
    go_simp
    go_wp2_with fail
    refine (Hs2 _).mono ?_
    rintro en w9 ⟨rfl,hb9⟩
    exact hK _ _ ⟨rfl,hM.kept hb9⟩
   ·cases ho9
    have r26 := hD.od hd9 2 26 _ rfl (by simp)
    refine wpOp_step rfl fun K hK => ?_
    go_simp
    exact hK _ _ ⟨rfl,hM⟩
   ·cases ho9
    have r26 := hD.od hd9 2 26 _ rfl (by simp)
    refine wpOp_step rfl fun K hK => ?_
    go_simp
    exact hK _ _ ⟨rfl,hM⟩
   ·cases ho9
    have r27 := hD.od hd9 3 27 _ rfl (by simp)
    have r28 := hD.od hd9 4 28 _ rfl (by simp)
    refine wpOp_step rfl fun K hK => ?_
    go_simp
    go_wp2_with fail
    refine (pair_is _ _ _).mono ?_
    rintro en w9 ⟨rfl,hb9⟩
    exact hK _ _ ⟨rfl,hM.kept hb9⟩
   ·cases ho9
    have r3 := hD.old 3 _ rfl rfl
    have hM0 := hM
    have Q_ := hM0.cellAt (b := w.heap.size) (cs := #[.int .i64 E,.int .i64 F]) (t := 23) (by simp)
    have c9_0 := Q_ 0 _ rfl
    have c9_1 := Q_ 1 _ rfl
    clear Q_
    clear hM0
    refine wpOp_step rfl fun K hK => ?_
    go_simp
    exact hK _ _ ⟨rfl,hM⟩
   ·cases ho9
    have r1 := hD.old 1 _ rfl rfl
    refine wpOp_step rfl fun K hK => ?_
    go_simp
    exact hK _ _ ⟨rfl,hM⟩
   ·cases ho9
    have r30 := hD.od hd9 6 30 _ rfl (by simp)
    have r31 := hD.od hd9 7 31 _ rfl (by simp)
    refine wpOp_step rfl fun K hK => ?_
    go_simp
    go_wp2_with fail
    refine (Hr2 _).mono ?_
    rintro en w9 ⟨rfl,hb9⟩
    exact hK _ _ ⟨rfl,hM.kept hb9⟩
   ·cases ho9
    have r32 := hD.od hd9 8 32 _ rfl (by simp)
    refine wpOp_step rfl fun K hK => ?_
    go_simp
    exact hK _ _ ⟨rfl,hM⟩
   ·cases ho9
    have r32 := hD.od hd9 8 32 _ rfl (by simp)
    refine wpOp_step rfl fun K hK => ?_
    go_simp
    exact hK _ _ ⟨rfl,hM⟩
   ·cases ho9
    have r33 := hD.od hd9 9 33 _ rfl (by simp)
    have r34 := hD.od hd9 10 34 _ rfl (by simp)
    refine wpOp_step rfl fun K hK => ?_
    go_simp
    go_wp2_with fail
    refine (pair_is _ _ _).mono ?_
    rintro en w9 ⟨rfl,hb9⟩
    exact hK _ _ ⟨rfl,hM.kept hb9⟩
   ·cases ho9
    have r29 := hD.od hd9 5 29 _ rfl (by simp)
    have r35 := hD.od hd9 11 35 _ rfl (by simp)
    refine wpOp_step rfl fun K hK => ?_
    go_simp
    exact hK _ _ ⟨act_eq (by first | rfl | simp),hM⟩
   ·cases ho9
    have r36 := hD.od hd9 12 36 _ rfl (by simp)
    refine wpOp_step rfl fun K hK => ?_
    go_simp
    exact hK _ _ ⟨rfl,hM⟩
  ·intro l9 W9 hl9 hM
   clear hS ya yb
   have hS := hM
   clear hM
   simp only [Puts.lay,List.setIfInBounds_toArray,List.set_cons_zero,List.set_cons_succ]
   obtain ⟨⟨yc,yd,-⟩,-⟩ := hS.cells
   go_wp2_with fail
   refine wp_region_any (by kernel_rfl) ?_
   refine wpAny_det [some (37,.agg #[.int .i64 E,.int .i64 F]),some (38,.int .u64 a),some (39,.int .u64 b),some (40,.tuple #[.int .u64 x3,.int .i64 e3]),some (41,.int .u64 x3),some (42,.int .i64 e3),some (43,.agg #[.int .u64 x3,.int .u8 0,.int .i64 e3]),some (44,.agg #[.int .i64 E,.int .i64 F]),some (45,.int .u64 a),some (46,.int .u64 b),some (47,.tuple #[.int .u64 x3,.int .i64 e3]),some (48,.int .u64 x3),some (49,.int .i64 e3),some (50,.agg #[.int .u64 x3,.int .u8 0,.int .i64 e3]),some (51,.bool true),some (9,.bool true)]
    (fun _ W9 => Fs w W9 [⟨w.heap.size,#[.int .i64 E,.int .i64 F],23⟩]) _ _ rfl (by kernel_rfl) rfl rfl ?_ ?_ (hS).drew
   ·intro l9 t9 W9 i9 hD hi9 hl9 hM
    obtain ⟨o9,ho9,hd9⟩ := (mem_ready.1 hi9).2
    have hin9 : i9 < 16 := by
     by_cases h : i9 < 16
     ·exact h
     ·rw [Array.getElem?_eq_none (by rw [hD.len]; simp; omega)] at hl9; cases hl9
    have hcase : i9 = 0 ∨ i9 = 1 ∨ i9 = 2 ∨ i9 = 3 ∨ i9 = 4 ∨ i9 = 5 ∨ i9 = 6 ∨ i9 = 7 ∨ i9 = 8 ∨ i9 = 9 ∨ i9 = 10 ∨ i9 = 11 ∨ i9 = 12 ∨ i9 = 13 ∨ i9 = 14 ∨ i9 = 15 := by omega
    clear hin9
    rcases hcase with rfl | rfl | rfl | rfl | rfl | rfl | rfl | rfl | rfl | rfl | rfl | rfl | rfl | rfl | rfl | rfl
    ·cases ho9
     have r3 := hD.old 3 _ rfl rfl
     have hM0 := hM
     have Q_ := hM0.cellAt (b := w.heap.size) (cs := #[.int .i64 E,.int .i64 F]) (t := 23) (by simp)
     have c9_0 := Q_ 0 _ rfl
     have c9_1 := Q_ 1 _ rfl
     clear Q_
     clear hM0
     refine wpOp_step rfl fun K hK => ?_
     go_simp
     exact hK _ _ ⟨rfl,hM⟩
    ·cases ho9
     have r1 := hD.old 1 _ rfl rfl
     refine wpOp_step rfl fun K hK => ?_
     go_simp
     exact hK _ _ ⟨rfl,hM⟩
    ·cases ho9
     have r2 := hD.old 2 _ rfl rfl
     refine wpOp_step rfl fun K hK => ?_
     go_simp
     exact hK _ _ ⟨rfl,hM⟩
    ·cases ho9
     have r37 := hD.od hd9 0 37 _ rfl (by simp)
     have r38 := hD.od hd9 1 38 _ rfl (by simp)
     have r39 := hD.od hd9 2 39 _ rfl (by simp)
     refine wpOp_step rfl fun K hK => ?_
     go_simp
     go_wp2_with fail
     refine (unhide Hs3 _ ((unhide HT).kept hM.fr)).mono ?_
     rintro en w9 ⟨rfl,hb9⟩
     exact hK _ _ ⟨rfl,hM.kept hb9⟩
    ·cases ho9
     have r40 := hD.od hd9 3 40 _ rfl (by simp)
     refine wpOp_step rfl fun K hK => ?_
     go_simp
     exact hK _ _ ⟨rfl,hM⟩
    ·cases ho9
     have r40 := hD.od hd9 3 40 _ rfl (by simp)
     refine wpOp_step rfl fun K hK => ?_
     go_simp
     exact hK _ _ ⟨rfl,hM⟩
    ·cases ho9
     have r41 := hD.od hd9 4 41 _ rfl (by simp)
     have r42 := hD.od hd9 5 42 _ rfl (by simp)
     refine wpOp_step rfl fun K hK => ?_
     go_simp
     go_wp2_with fail
     refine (pair_is _ _ _).mono ?_
     rintro en w9 ⟨rfl,hb9⟩
     exact hK _ _ ⟨rfl,hM.kept hb9⟩
    ·cases ho9
     have r3 := hD.old 3 _ rfl rfl
     have hM0 := hM
     have Q_ := hM0.cellAt (b := w.heap.size) (cs := #[.int .i64 E,.int .i64 F]) (t := 23) (by simp)
     have c9_0 := Q_ 0 _ rfl
     have c9_1 := Q_ 1 _ rfl
     clear Q_
     clear hM0
     refine wpOp_step rfl fun K hK => ?_
     go_simp
     exact hK _ _ ⟨rfl,hM⟩
    ·cases ho9
     have r1 := hD.old 1 _ rfl rfl
     refine wpOp_step rfl fun K hK => ?_
     go_simp
     exact hK _ _ ⟨rfl,hM⟩
    ·cases ho9
     have r2 := hD.old 2 _ rfl rfl
     refine wpOp_step rfl fun K hK => ?_
     go_simp
     exact hK _ _ ⟨rfl,hM⟩
    ·cases ho9
     have r44 := hD.od hd9 7 44 _ rfl (by simp)
     have r45 := hD.od hd9 8 45 _ rfl (by simp)
     have r46 := hD.od hd9 9 46 _ rfl (by simp)
     refine wpOp_step rfl fun K hK => ?_
     go_simp
     go_wp2_with fail
     refine (Hr3 _).mono ?_
     rintro en w9 ⟨rfl,hb9⟩
     exact hK _ _ ⟨rfl,hM.kept hb9⟩
    ·cases ho9
     have r47 := hD.od hd9 10 47 _ rfl (by simp)
     refine wpOp_step rfl fun K hK => ?_
     go_simp
     exact hK _ _ ⟨rfl,hM⟩
    ·cases ho9
     have r47 := hD.od hd9 10 47 _ rfl (by simp)
     refine wpOp_step rfl fun K hK => ?_
     go_simp
     exact hK _ _ ⟨rfl,hM⟩
    ·cases ho9
     have r48 := hD.od hd9 11 48 _ rfl (by simp)
     have r49 := hD.od hd9 12 49 _ rfl (by simp)
     refine wpOp_step rfl fun K hK => ?_
     go_simp
     go_wp2_with fail
     refine (pair_is _ _ _).mono ?_
     rintro en w9 ⟨rfl,hb9⟩
     exact hK _ _ ⟨rfl,hM.kept hb9⟩
    ·cases ho9
     have r43 := hD.od hd9 6 43 _ rfl (by simp)
     have r50 := hD.od hd9 13 50 _ rfl (by simp)
     refine wpOp_step rfl fun K hK => ?_
     go_simp
     exact hK _ _ ⟨act_eq (by first | rfl | simp),hM⟩
    ·cases ho9
     have r51 := hD.od hd9 14 51 _ rfl (by simp)
     refine wpOp_step rfl fun K hK => ?_
     go_simp
     exact hK _ _ ⟨rfl,hM⟩
   ·intro l9 W9 hl9 hM
    clear hS yc yd
    have hS := hM
    clear hM
    simp only [Puts.lay,List.setIfInBounds_toArray,List.set_cons_zero,List.set_cons_succ]
    obtain ⟨⟨ye,yf,-⟩,-⟩ := hS.cells
    go_wp2_with fail
    refine wp_region_any (by kernel_rfl) ?_
    refine wpAny_det [some (52,.agg #[.int .i64 E,.int .i64 F]),some (53,.int .u64 a),some (54,.int .u64 b),some (55,.tuple #[.int .u64 x4,.int .i64 e4]),some (56,.int .u64 x4),some (57,.int .i64 e4),some (58,.agg #[.int .u64 x4,.int .u8 0,.int .i64 e4]),some (59,.agg #[.int .i64 E,.int .i64 F]),some (60,.int .u64 a),some (61,.int .u64 b),some (62,.tuple #[.int .u64 x4,.int .i64 e4]),some (63,.int .u64 x4),some (64,.int .i64 e4),some (65,.agg #[.int .u64 x4,.int .u8 0,.int .i64 e4]),some (66,.bool true),some (10,.bool true)]
     (fun _ W9 => Fs w W9 [⟨w.heap.size,#[.int .i64 E,.int .i64 F],23⟩]) _ _ rfl (by kernel_rfl) rfl rfl ?_ ?_ (hS).drew
    ·intro l9 t9 W9 i9 hD hi9 hl9 hM
     obtain ⟨o9,ho9,hd9⟩ := (mem_ready.1 hi9).2
     have hin9 : i9 < 16 := by
      by_cases h : i9 < 16
      ·exact h
      ·rw [Array.getElem?_eq_none (by rw [hD.len]; simp; omega)] at hl9; cases hl9
     have hcase : i9 = 0 ∨ i9 = 1 ∨ i9 = 2 ∨ i9 = 3 ∨ i9 = 4 ∨ i9 = 5 ∨ i9 = 6 ∨ i9 = 7 ∨ i9 = 8 ∨ i9 = 9 ∨ i9 = 10 ∨ i9 = 11 ∨ i9 = 12 ∨ i9 = 13 ∨ i9 = 14 ∨ i9 = 15 := by omega
     clear hin9
     rcases hcase with rfl | rfl | rfl | rfl | rfl | rfl | rfl | rfl | rfl | rfl | rfl | rfl | rfl | rfl | rfl | rfl
     ·cases ho9
      have r3 := hD.old 3 _ rfl rfl
      have hM0 := hM
      have Q_ := hM0.cellAt (b := w.heap.size) (cs := #[.int .i64 E,.int .i64 F]) (t := 23) (by simp)
      have c9_0 := Q_ 0 _ rfl
      have c9_1 := Q_ 1 _ rfl
      clear Q_
      clear hM0
      refine wpOp_step rfl fun K hK => ?_
      go_simp
      exact hK _ _ ⟨rfl,hM⟩
     ·cases ho9
      have r1 := hD.old 1 _ rfl rfl
      refine wpOp_step rfl fun K hK => ?_
      go_simp
      exact hK _ _ ⟨rfl,hM⟩
     ·cases ho9
      have r2 := hD.old 2 _ rfl rfl
      refine wpOp_step rfl fun K hK => ?_
      go_simp
      exact hK _ _ ⟨rfl,hM⟩
     ·cases ho9
      have r52 := hD.od hd9 0 52 _ rfl (by simp)
      have r53 := hD.od hd9 1 53 _ rfl (by simp)
      have r54 := hD.od hd9 2 54 _ rfl (by simp)
      refine wpOp_step rfl fun K hK => ?_
      go_simp
      go_wp2_with fail
      refine (unhide Hs4 _ ((unhide HT).kept hM.fr)).mono ?_
      rintro en w9 ⟨rfl,hb9⟩
      exact hK _ _ ⟨rfl,hM.kept hb9⟩
     ·cases ho9
      have r55 := hD.od hd9 3 55 _ rfl (by simp)
      refine wpOp_step rfl fun K hK => ?_
      go_simp
      exact hK _ _ ⟨rfl,hM⟩
     ·cases ho9
      have r55 := hD.od hd9 3 55 _ rfl (by simp)
      refine wpOp_step rfl fun K hK => ?_
      go_simp
      exact hK _ _ ⟨rfl,hM⟩
     ·cases ho9
      have r56 := hD.od hd9 4 56 _ rfl (by simp)
      have r57 := hD.od hd9 5 57 _ rfl (by simp)
      refine wpOp_step rfl fun K hK => ?_
      go_simp
      go_wp2_with fail
      refine (pair_is _ _ _).mono ?_
      rintro en w9 ⟨rfl,hb9⟩
      exact hK _ _ ⟨rfl,hM.kept hb9⟩
     ·cases ho9
      have r3 := hD.old 3 _ rfl rfl
      have hM0 := hM
      have Q_ := hM0.cellAt (b := w.heap.size) (cs := #[.int .i64 E,.int .i64 F]) (t := 23) (by simp)
      have c9_0 := Q_ 0 _ rfl
      have c9_1 := Q_ 1 _ rfl
      clear Q_
      clear hM0
      refine wpOp_step rfl fun K hK => ?_
      go_simp
      exact hK _ _ ⟨rfl,hM⟩
     ·cases ho9
      have r1 := hD.old 1 _ rfl rfl
      refine wpOp_step rfl fun K hK => ?_
      go_simp
      exact hK _ _ ⟨rfl,hM⟩
     ·cases ho9
      have r2 := hD.old 2 _ rfl rfl
      refine wpOp_step rfl fun K hK => ?_
      go_simp
      exact hK _ _ ⟨rfl,hM⟩
     ·cases ho9
      have r59 := hD.od hd9 7 59 _ rfl (by simp)
      have r60 := hD.od hd9 8 60 _ rfl (by simp)
      have r61 := hD.od hd9 9 61 _ rfl (by simp)
      refine wpOp_step rfl fun K hK => ?_
      go_simp
      go_wp2_with fail
      refine (Hr4 _).mono ?_
      rintro en w9 ⟨rfl,hb9⟩
      exact hK _ _ ⟨rfl,hM.kept hb9⟩
     ·cases ho9
      have r62 := hD.od hd9 10 62 _ rfl (by simp)
      refine wpOp_step rfl fun K hK => ?_
      go_simp
      exact hK _ _ ⟨rfl,hM⟩
     ·cases ho9
      have r62 := hD.od hd9 10 62 _ rfl (by simp)
      refine wpOp_step rfl fun K hK => ?_
      go_simp
      exact hK _ _ ⟨rfl,hM⟩
     ·cases ho9
      have r63 := hD.od hd9 11 63 _ rfl (by simp)
      have r64 := hD.od hd9 12 64 _ rfl (by simp)
      refine wpOp_step rfl fun K hK => ?_
      go_simp
      go_wp2_with fail
      refine (pair_is _ _ _).mono ?_
      rintro en w9 ⟨rfl,hb9⟩
      exact hK _ _ ⟨rfl,hM.kept hb9⟩
     ·cases ho9
      have r58 := hD.od hd9 6 58 _ rfl (by simp)
      have r65 := hD.od hd9 13 65 _ rfl (by simp)
      refine wpOp_step rfl fun K hK => ?_
      go_simp
      exact hK _ _ ⟨act_eq (by first | rfl | simp),hM⟩
     ·cases ho9
      have r66 := hD.od hd9 14 66 _ rfl (by simp)
      refine wpOp_step rfl fun K hK => ?_
      go_simp
      exact hK _ _ ⟨rfl,hM⟩
    ·intro l9 W9 hl9 hM
     clear hS ye yf
     have hS := hM
     clear hM
     simp only [Puts.lay,List.setIfInBounds_toArray,List.set_cons_zero,List.set_cons_succ]
     obtain ⟨⟨yg,yh,-⟩,-⟩ := hS.cells
     go_wp2
     go_ret
     exact ⟨rfl,hS.fr⟩
theorem flOf_one {E F b : Int} {k : Kd} {t : TypeId} {x : Value} (hk : ∀ (W : World) (B : Nat),Flt W B (.iface t x) k) (h : Tel 35 #[.agg #[.int .i64 E,.int .i64 F],.int .u64 b] (.iface t x)) : FlOf E F b k := by
 intro W _
 refine (h W).mono ?_
 rintro e w' ⟨rfl,hb⟩
 exact ⟨⟨t,x,rfl,hk _ _⟩,hb⟩
theorem opR_one {E F b : Int} {neg nan qu inf : Bool} (h : Tel 27 #[.agg #[.int .i64 E,.int .i64 F],.int .u64 b] (.agg #[.bool neg,.bool nan,.bool qu,.bool inf,.bool false,.slice none 0 0,.int .i64 0])) : OpR E F b neg nan qu inf false 0 0 := by
 intro W
 refine (h W).mono ?_
 rintro e w' ⟨rfl,hb⟩
 exact ⟨⟨none,0,0,rfl,mine_nil _ _⟩,hb⟩
theorem flt_both {E F S I b : Nat} (h : Fm E F S I) (hb : b < 2 * S) : ∃ (k : Kd) (neg nan qu inf s : Bool) (m : Nat) (x : Int),FlOf E F b k ∧ OpR E F b neg nan qu inf s m x ∧ nan = k.isNan ∧ neg = decide (S ≤ b) := by
 have h0 := h.fo
 have hB := Bt.of E F b (h.bt hb)
 have hneg : decide (b / 2 ^ (F + E) = 1) = decide (S ≤ b) := by
  rw [← h.hS]
  rcases div_two h.pos hb with ⟨h1,h2,-⟩ | ⟨h1,h2,-⟩
  ·simp [h2]; omega
  ·simp [h2]; omega
 rw [hneg] at hB
 generalize decide (S ≤ b) = neg at hB hneg
 generalize b % 2 ^ (F + E) / 2 ^ F = ex at hB
 generalize b % 2 ^ F = fr at hB
 obtain ⟨B,hBi⟩ : ∃ B,B = 2 ^ (E - 1) - 1 := ⟨_,rfl⟩
 have HBi := hide hBi
 have hE4 := two_lt h0.e2
 have HS : Tel 43 #[.agg #[.int .i64 E,.int .i64 F],.int .u64 (b : Int)] (.tuple #[.agg #[.bool neg,.int .i64 ex,.int .u64 fr],.int .i64 0]) := fun W => Split_ok E F b ex fr neg h0 hB W
 have HC : ∀ c : Nat,cls ex fr (2 ^ E - 1) = c → Tel 42 #[.agg #[.int .i64 E,.int .i64 F],.int .u64 (b : Int)] (.tuple #[.int .u8 (c : Int),.int .i64 0]) := fun c hc W => by
  have := Class_ok E F b ex fr neg h0 hB _ (hide rfl) W
  rw [hc] at this
  exact this
 by_cases hx : ex + 1 = 2 ^ E
 ·by_cases hf : fr = 0
  ·have hc : cls ex fr (2 ^ E - 1) = 4 := by unfold cls; rw [if_neg (by omega),if_neg (by omega),if_neg (by omega),if_pos hf]
   exact ⟨.inf neg 0,neg,false,false,true,false,0,0,flOf_one (fun _ _ => rfl) (fun W => floatOf_inf E F b ex fr neg (HC 4 hc) HS W),opR_one (fun W => open_inf E F b ex fr neg h0 (hide hB) hx hf W),rfl,rfl⟩
  ·have hc : cls ex fr (2 ^ E - 1) = 5 := by unfold cls; rw [if_neg (by omega),if_neg (by omega),if_neg (by omega),if_neg hf]
   have hfl := hB.fr_lt
   have hpow : 2 ^ F = 2 * 2 ^ (F - 1) := by rw [← Nat.pow_succ',Nat.succ_eq_add_one,Nat.sub_add_cancel h0.f1]
   have hp1 := pow_pos2 (F - 1)
   by_cases hq : 2 ^ (F - 1) ≤ fr
   ·have hd : fr / 2 ^ (F - 1) = 1 := by rw [Nat.div_eq_iff hp1]; omega
    have HP : Tel 53 #[.agg #[.int .i64 E,.int .i64 F],.int .u64 (b : Int)] (.tuple #[.int .u64 ((fr % 2 ^ (F - 1) : Nat) : Int),.bool true,.int .i64 0]) := fun W => Payload_nan E F b ex fr neg h0 hB _ true hc (hide rfl) (hide (by simp [hq])) W
    exact ⟨.nan 0,neg,true,true,false,false,0,0,flOf_one (fun _ _ => rfl) (fun W => floatOf_nan E F b ex fr neg (HC 5 hc) HS 0 (fun W => noneOf_quiet E F b _ HP W) W),opR_one (fun W => open_quiet E F b ex fr neg h0 (hide hB) hx (by omega) hd W),rfl,rfl⟩
   ·have hd : fr / 2 ^ (F - 1) = 0 := Nat.div_eq_of_lt (by omega)
    have HP : Tel 53 #[.agg #[.int .i64 E,.int .i64 F],.int .u64 (b : Int)] (.tuple #[.int .u64 ((fr % 2 ^ (F - 1) : Nat) : Int),.bool false,.int .i64 0]) := fun W => Payload_nan E F b ex fr neg h0 hB _ false hc (hide rfl) (hide (by simp [hq])) W
    exact ⟨.nan 16,neg,true,false,false,false,0,0,flOf_one (fun _ _ => rfl) (fun W => floatOf_nan E F b ex fr neg (HC 5 hc) HS 16 (fun W => noneOf_loud E F b _ HP W) W),opR_one (fun W => open_loud E F b ex fr neg h0 (hide hB) hx (by omega) hd W),rfl,rfl⟩
 have hfin : ex + 1 < 2 ^ E := by have := hB.ex_lt; omega
 by_cases hz : ex = 0 ∧ fr = 0
 ·obtain ⟨rfl,rfl⟩ := hz
  exact ⟨.zero neg 0,neg,false,false,false,false,0,0,flOf_one (fun _ _ => rfl) (fun W => floatOf_zero E F b 0 0 neg (HC 1 (by unfold cls; rw [if_pos ⟨rfl,rfl⟩])) HS W),
   fun W => open_fin E F b 0 0 neg h0 (hide hB) hfin false 0 0 (hide fun W => rValue_zero E F B b neg h0 HBi hB W) W,rfl,rfl⟩
 obtain ⟨M,z,xe,hW⟩ := Wo.ex (B := B) hfin hB.fr_lt hz
 have hzl := hW.zle
 have hF := h0.f52
 have hc : ∃ c : Nat,cls ex fr (2 ^ E - 1) = c ∧ (c = 2 ∨ c = 3) := by
  unfold cls
  by_cases he : ex = 0
  ·exact ⟨2,by rw [if_neg hz,if_pos he],Or.inl rfl⟩
  ·exact ⟨3,by rw [if_neg hz,if_neg he,if_pos (by omega)],Or.inr rfl⟩
 obtain ⟨c,hc1,hc2⟩ := hc
 refine ⟨.num neg (M / 2 ^ z) (xe + (z : Int)) 0,neg,false,false,false,neg,M / 2 ^ z,xe + (z : Int),?_,?_,rfl,rfl⟩
 ·intro W hT
  exact floatOf_num E F b c ex fr neg (HC c hc1) HS (by simp; omega) (by simp; omega) (by simp; omega) neg (M / 2 ^ z) (xe + (z : Int)) (hide (vals_wo h0 HBi hB hW)) W hT
 ·refine fun W => open_fin E F b ex fr neg h0 (hide hB) hfin neg (M / 2 ^ z) (xe + (z : Int)) (hide fun W => ?_) W
  rcases hW.part with ⟨rfl,rfl,hf,rfl⟩ | ⟨h1,hM,rfl⟩
  ·exact rValue_small E F B b M z neg h0 HBi hB W hf hW.tz (by omega)
  ·have := rValue_normal E F B b ex fr M z neg h0 HBi hB W h1 hfin hM hW.tz (by omega)
   rw [show ((ex : Int) - (B : Int) - (F : Int)) = 1 - (B : Int) - (F : Int) + ((ex : Int) - 1) from by omega] at this
   exact this
theorem nan_both {E F S I : Nat} (h : Fm E F S I) : ∃ n : Int,Tel 23 #[.agg #[.int .i64 E,.int .i64 F],.bool false,.int .u64 0] (.tuple #[.int .u64 n,.int .i64 0]) ∧ Tel 28 #[.agg #[.int .i64 E,.int .i64 F]] (.int .u64 n) := by
 have h0 := h.fo
 have hp1 := pow_pos2 (F - 1)
 have hpow : 2 ^ F = 2 * 2 ^ (F - 1) := by rw [← Nat.pow_succ',Nat.succ_eq_add_one,Nat.sub_add_cancel h0.f1]
 have hpE := pow_pos2 E
 have htop := h.top
 have h63 := h.s63
 have hE := pow_bound h0.e11
 have hF := pow_bound h0.f52
 refine ⟨((I + 2 ^ (F - 1) : Nat) : Int),fun W => ?_,fun W => ?_⟩
 ·have := NaN_ok E F (I + 2 ^ (F - 1)) 0 (2 ^ E - 1) (2 ^ (F - 1) + 0) false h0 hp1 rfl (hide rfl) ⟨by omega,by omega,by rw [h.hI]; simp⟩ W
  exact this
 ·have HI : Tel 41 #[.agg #[.int .i64 E,.int .i64 F],.bool false] (.int .u64 (I : Int)) := fun W => by
   have e6 : IntKind.u64.wrap ((2 : Int) ^ E) = ((2 ^ E : Nat) : Int) := wrap_pow (by have := h0.e11; omega)
   have e7 : IntKind.u64.wrap (((2 ^ E : Nat) : Int) - 1) = ((2 ^ E - 1 : Nat) : Int) := by rw [IntKind.wrap_u64]; omega
   have e11 : IntKind.u64.wrap (((2 ^ E - 1 : Nat) : Int) * 2 ^ F) = (I : Int) := by rw [shl_u64 _ _ (by rw [← h.hI]; omega),← h.hI]
   have e12 : IntKind.u64.wrap (((0 : Nat) : Int) + (I : Int)) = (I : Int) := by rw [IntKind.wrap_u64]; omega
   exact xInf_f E F (2 ^ E) (2 ^ E - 1) I 0 I (fun W => xsign_f E F W) h0.e11 h0.f52 h0.f1 e6 e7 e11 e12 W
  have e6 : IntKind.u64.wrap ((2 : Int) ^ (F - 1)) = ((2 ^ (F - 1) : Nat) : Int) := wrap_pow (by have := h0.f52; omega)
  have e7 : IntKind.u64.wrap ((I : Int) + ((2 ^ (F - 1) : Nat) : Int)) = ((I + 2 ^ (F - 1) : Nat) : Int) := by rw [IntKind.wrap_u64]; omega
  have hf1 := h0.f1
  have hf52 := h0.f52
  exact xNaN_is E F (F - 1) (2 ^ (F - 1)) I (I + 2 ^ (F - 1)) HI (by omega) (by omega) e6 e7 W
theorem lesB_f {S a b : Nat} (ha : ¬ S ≤ a) (hb : ¬ S ≤ b) : lesB S a b = decide ((a : Int) < (b : Int)) := by
 unfold lesB
 rw [if_neg (by omega),decide_eq_true (show (b : Int) < (S : Int) by omega),Bool.and_true]
theorem lesB_t {S a b : Nat} (ha : S ≤ a) : lesB S a b = decide ((b : Int) < (a : Int)) := by
 unfold lesB
 rw [if_pos (by omega)]
theorem lesB_ft {S a b : Nat} (ha : ¬ S ≤ a) (hb : S ≤ b) : lesB S a b = false := by
 unfold lesB
 rw [if_neg (by omega),decide_eq_false (show ¬ (b : Int) < (S : Int) by omega),Bool.and_false]
theorem lesB_tf {S a b : Nat} (ha : S ≤ a) (hb : ¬ S ≤ b) : lesB S a b = true := by
 unfold lesB
 rw [if_pos (by omega),decide_eq_true (by omega)]
theorem softPicks_any (E F : Int) (a b : Nat) (w : World) (ha : a < 18446744073709551616) (hb : b < 18446744073709551616) (hT : Tb w) :
  Calls Tryz.prog 3 #[.agg #[.int .i64 E,.int .i64 F],.int .u64 (a : Int),.int .u64 (b : Int)] w fun e w' => e = .returned (.bool true) ∧ Below w.heap.size w w' := by
 by_cases hbad : NoFo E F
 ·have hc : ((5 : Int) == (0 : Int)) = false := by decide
  have A0 := fits_B hbad (a : Int)
  have R0 : Tel 15 #[.agg #[.int .i64 E,.int .i64 F],.int .u64 (a : Int)] (.int .i64 5) := fun W => rmay_bad E F hbad (a : Int) W
  exact picks_law E F a b 0 5 0 5 0 5 0 5 (fun W => sNeg_err E F a 5 hc A0 W) (fun W => xNeg_err E F a 5 hc R0 W) (fun W => sAbs_err E F a 5 hc A0 W) (fun W => xAbs_err E F a 5 hc R0 W)
   (hide fun W hT => sMin_is E F a b 0 0 5 (hide fun W _ => inOrder_err1 E F a b 5 hc A0 W) W hT) (fun W => xMin_is E F a b 0 5 (fun W => pick_err1 E F a b false 5 hc R0 W) W)
   (hide fun W hT => sMax_is E F a b 0 0 5 (hide fun W _ => inOrder_err1 E F a b 5 hc A0 W) W hT) (fun W => xMax_is E F a b 0 5 (fun W => pick_err1 E F a b true 5 hc R0 W) W) w hT
 unfold NoFo at hbad
 obtain ⟨E,rfl⟩ : ∃ n : Nat,E = n := ⟨E.toNat,by omega⟩
 obtain ⟨F,rfl⟩ : ∃ n : Nat,F = n := ⟨F.toNat,by omega⟩
 have h0 : Fo E F := ⟨by omega,by omega,by omega,by omega⟩
 clear hbad
 obtain ⟨S,hS⟩ : ∃ S,S = 2 ^ (F + E) := ⟨_,rfl⟩
 obtain ⟨I,hI⟩ : ∃ I,I = (2 ^ E - 1) * 2 ^ F := ⟨_,rfl⟩
 have h : Fm E F S I := ⟨h0,hS,hI⟩
 have hc : ((6 : Int) == (0 : Int)) = false := by decide
 have HS : Tel 14 #[.agg #[.int .i64 E,.int .i64 F]] (.int .u64 (S : Int)) := fun W => ssign_is E F S h0 (hide hS) W
 have HX : Tel 16 #[.agg #[.int .i64 E,.int .i64 F],.bool true] (.int .u64 (S : Int)) := fun W => xsign_t E F S h0 (hide hS) W
 by_cases hfa : a < 2 * S
 ·have A0 := fits_T h hfa
  have R0 : Tel 15 #[.agg #[.int .i64 E,.int .i64 F],.int .u64 (a : Int)] (.int .i64 0) := fun W => rmay_ok E F a h0 (h.bt hfa) W
  by_cases hfb : b < 2 * S
  ·have B0 := fits_T h hfb
   have Q0 : Tel 15 #[.agg #[.int .i64 E,.int .i64 F],.int .u64 (b : Int)] (.int .i64 0) := fun W => rmay_ok E F b h0 (h.bt hfb) W
   obtain ⟨k0,g0,n0,q0,i0,s0,m0,x0,HA,HO0,rfl,hg0⟩ := flt_both h hfa
   obtain ⟨k1,g1,n1,q1,i1,s1,m1,x1,HB,HO1,rfl,hg1⟩ := flt_both h hfb
   have fin : ∀ (x y : Int),(∀ W : World,Tb W → Calls Tryz.prog 17 #[.agg #[.int .i64 E,.int .i64 F],.int .u64 (a : Int),.int .u64 (b : Int)] W fun e w' => e = .returned (.tuple #[.int .u64 x,.int .u64 y,.int .i64 0]) ∧ Below W.heap.size W w') →
     Tel 18 #[.agg #[.int .i64 E,.int .i64 F],.int .u64 (a : Int),.int .u64 (b : Int),.bool false] (.tuple #[.int .u64 x,.int .i64 0]) → Tel 18 #[.agg #[.int .i64 E,.int .i64 F],.int .u64 (a : Int),.int .u64 (b : Int),.bool true] (.tuple #[.int .u64 y,.int .i64 0]) →
     Calls Tryz.prog 3 #[.agg #[.int .i64 E,.int .i64 F],.int .u64 (a : Int),.int .u64 (b : Int)] w fun e w' => e = .returned (.bool true) ∧ Below w.heap.size w w' := fun x y H1 H2 H3 =>
    picks_law E F a b _ 0 _ 0 x 0 y 0 (fun W => sNeg_ok E F a S _ A0 HS rfl W) (fun W => xNeg_ok E F a S _ R0 HX rfl W) (fun W => sAbs_ok E F a S _ A0 HS rfl W) (fun W => xAbs_ok E F a S _ R0 HX rfl W)
     (hide fun W hT => sMin_is E F a b x y 0 (hide H1) W hT) (fun W => xMin_is E F a b x 0 H2 W)
     (hide fun W hT => sMax_is E F a b x y 0 (hide H1) W hT) (fun W => xMax_is E F a b y 0 H3 W) w hT
   by_cases hr : (k0.isNan || k1.isNan) = true
   ·obtain ⟨n,N1,N2⟩ := nan_both h
    exact fin n n (fun W hT => inOrder_nan E F a b A0 B0 k0 k1 (hide HA) (hide HB) hr n N1 W hT)
     (fun W => pick_nan E F a b R0 Q0 g0 _ q0 i0 s0 g1 _ q1 i1 s1 m0 m1 x0 x1 (hide HO0) (hide HO1) false hr n N2 W)
     (fun W => pick_nan E F a b R0 Q0 g0 _ q0 i0 s0 g1 _ q1 i1 s1 m0 m1 x0 x1 (hide HO0) (hide HO1) true hr n N2 W)
   ·replace hr : (k0.isNan || k1.isNan) = false := by simpa using hr
    have HL := below_any E F a b S HS
    have HM : ∀ W : World,Calls Tryz.prog 29 #[.agg #[.int .i64 E,.int .i64 F],.int .u64 (a : Int),.int .u64 (b : Int)] W fun e w' => e = .returned (.bool (lesB S a b)) ∧ Below W.heap.size W w' := by
     intro W
     by_cases hsa : S ≤ a
     ·obtain rfl : g0 = true := by rw [hg0]; simpa using hsa
      by_cases hsb : S ≤ b
      ·obtain rfl : g1 = true := by rw [hg1]; simpa using hsb
       rw [lesB_t hsa]
       exact less_tt W E F a b _ q0 i0 s0 _ q1 i1 s1 m0 m1 x0 x1 (hide HO0) (hide HO1)
      ·obtain rfl : g1 = false := by rw [hg1]; simpa using hsb
       rw [lesB_tf hsa hsb]
       exact less_tf W E F a b _ q0 i0 s0 _ q1 i1 s1 m0 m1 x0 x1 (hide HO0) (hide HO1)
     ·obtain rfl : g0 = false := by rw [hg0]; simpa using hsa
      by_cases hsb : S ≤ b
      ·obtain rfl : g1 = true := by rw [hg1]; simpa using hsb
       rw [lesB_ft hsa hsb]
       exact less_ft W E F a b _ q0 i0 s0 _ q1 i1 s1 m0 m1 x0 x1 (hide HO0) (hide HO1)
      ·obtain rfl : g1 = false := by rw [hg1]; simpa using hsb
       rw [lesB_f hsa hsb]
       exact less_ff W E F a b _ q0 i0 s0 _ q1 i1 s1 m0 m1 x0 x1 (hide HO0) (hide HO1)
    cases hl : lesB S a b with
    | true =>
     rw [hl] at HL HM
     exact fin a b (fun W hT => inOrder_true E F a b A0 B0 k0 k1 (hide HA) (hide HB) hr HL W hT)
      (fun W => pick_ft E F a b R0 Q0 g0 _ q0 i0 s0 g1 _ q1 i1 s1 m0 m1 x0 x1 (hide HO0) (hide HO1) hr (hide HM) W)
      (fun W => pick_tt E F a b R0 Q0 g0 _ q0 i0 s0 g1 _ q1 i1 s1 m0 m1 x0 x1 (hide HO0) (hide HO1) hr (hide HM) W)
    | false =>
     rw [hl] at HL HM
     exact fin b a (fun W hT => inOrder_false E F a b A0 B0 k0 k1 (hide HA) (hide HB) hr HL W hT)
      (fun W => pick_ff E F a b R0 Q0 g0 _ q0 i0 s0 g1 _ q1 i1 s1 m0 m1 x0 x1 (hide HO0) (hide HO1) hr (hide HM) W)
      (fun W => pick_tf E F a b R0 Q0 g0 _ q0 i0 s0 g1 _ q1 i1 s1 m0 m1 x0 x1 (hide HO0) (hide HO1) hr (hide HM) W)
  ·have B0 := fits_M h hfb
   have Q0 : Tel 15 #[.agg #[.int .i64 E,.int .i64 F],.int .u64 (b : Int)] (.int .i64 6) := fun W => rmay_over E F b h0 (h.tb hfb) hb W
   exact picks_law E F a b _ 0 _ 0 0 6 0 6 (fun W => sNeg_ok E F a S _ A0 HS rfl W) (fun W => xNeg_ok E F a S _ R0 HX rfl W) (fun W => sAbs_ok E F a S _ A0 HS rfl W) (fun W => xAbs_ok E F a S _ R0 HX rfl W)
    (hide fun W hT => sMin_is E F a b 0 0 6 (hide fun W _ => inOrder_err2 E F a b 6 hc A0 B0 W) W hT) (fun W => xMin_is E F a b 0 6 (fun W => pick_err2 E F a b false 6 hc R0 Q0 W) W)
    (hide fun W hT => sMax_is E F a b 0 0 6 (hide fun W _ => inOrder_err2 E F a b 6 hc A0 B0 W) W hT) (fun W => xMax_is E F a b 0 6 (fun W => pick_err2 E F a b true 6 hc R0 Q0 W) W) w hT
 ·have A0 := fits_M h hfa
  have R0 : Tel 15 #[.agg #[.int .i64 E,.int .i64 F],.int .u64 (a : Int)] (.int .i64 6) := fun W => rmay_over E F a h0 (h.tb hfa) ha W
  exact picks_law E F a b 0 6 0 6 0 6 0 6 (fun W => sNeg_err E F a 6 hc A0 W) (fun W => xNeg_err E F a 6 hc R0 W) (fun W => sAbs_err E F a 6 hc A0 W) (fun W => xAbs_err E F a 6 hc R0 W)
   (hide fun W hT => sMin_is E F a b 0 0 6 (hide fun W _ => inOrder_err1 E F a b 6 hc A0 W) W hT) (fun W => xMin_is E F a b 0 6 (fun W => pick_err1 E F a b false 6 hc R0 W) W)
   (hide fun W hT => sMax_is E F a b 0 0 6 (hide fun W _ => inOrder_err1 E F a b 6 hc A0 W) W hT) (fun W => xMax_is E F a b 0 6 (fun W => pick_err1 E F a b true 6 hc R0 W) W) w hT
end Go.Proofs.YtongmpfampjdoaaGreatDoor
