/- Of what SoftPicksRow stands on: SfFlt SfPick ExRat NrFin. -/
import Derived.Test.YtongmpfampjdoaaGreatDoorPab
import Derived.Test.YtongmpfampjdoaaGreatDoorPav
import Derived.Test.YtongmpfampjdoaaGreatDoorPba
import Derived.Test.YtongmpfampjdoaaGreatDoorPat
import Derived.Test.YtongmpfampjdoaaGreatDoorPaq
import Derived.Test.YtongmpfampjdoaaGreatDoorPas
namespace Go.Proofs.YtongmpfampjdoaaGreatDoor
open Go.RowKit
set_option maxHeartbeats 4000000
set_option maxRecDepth 20000
inductive Kd where
 | nan (fl : Nat)
 | inf (neg : Bool) (fl : Nat)
 | zero (neg : Bool) (fl : Nat)
 | num (s : Bool) (m : Nat) (x : Int) (fl : Nat)
def Flt (W : World) (B : Nat) (v : Value) : Kd → Prop
 | .nan fl => v = .iface 44 (.agg #[.int .u8 (fl : Int)])
 | .inf neg fl => v = .iface 84 (.agg #[.bool neg,.int .u8 (fl : Int)])
 | .zero neg fl => v = .iface 85 (.agg #[.bool neg,.int .u8 (fl : Int)])
 | .num s m x fl => ∃ A N C,v = .iface 87 (.agg #[.bool s,.slice A N C,.int .i64 x,.int .u8 (fl : Int)]) ∧ Mine W B A N C m
theorem Flt.kept {W W' : World} {B : Nat} {v : Value} {k : Kd} (h : Flt W B v k) (hb : Below W.heap.size W W') : Flt W' B v k := by
 cases k with
 | nan fl => exact h
 | inf neg fl => exact h
 | zero neg fl => exact h
 | num s m x fl => obtain ⟨A,N,C,e,hm⟩ := h; exact ⟨A,N,C,e,hm.kept hb⟩
theorem Flt.mono {W : World} {B B' : Nat} {v : Value} {k : Kd} (h : Flt W B v k) (hb : B' ≤ B) : Flt W B' v k := by
 cases k with
 | nan fl => exact h
 | inf neg fl => exact h
 | zero neg fl => exact h
 | num s m x fl => obtain ⟨A,N,C,e,hm⟩ := h; exact ⟨A,N,C,e,hm.mono hb⟩
theorem Flt.set {W : World} {B : Nat} {v : Value} {k : Kd} (h : Flt W B v k) {p : Addr} (hp : p.block < B) (u : Value) : Flt (W.setCell p u) B v k := by
 cases k with
 | nan fl => exact h
 | inf neg fl => exact h
 | zero neg fl => exact h
 | num s m x fl => obtain ⟨A,N,C,e,hm⟩ := h; exact ⟨A,N,C,e,hm.set hp u⟩
def FlOf (E F b : Int) (k : Kd) : Prop := ∀ W : World,Tb W → Calls Tryz.prog 35 #[.agg #[.int .i64 E,.int .i64 F],.int .u64 b] W fun e w' => (∃ t x,e = .returned (.iface t x) ∧ Flt w' W.heap.size (.iface t x) k) ∧ Below W.heap.size W w'
theorem invalid_is  (w : World)  :
  Calls Tryz.prog 54 #[] w fun e w' => e = .returned (.agg #[.int .u8 16]) ∧ Below w.heap.size w w' := by
 go_enter Tryz.func54,Tryz.ntmps54
 go_wp2
 exact bodyPost_ret (v := .agg #[.int .u8 16]) (by simp [results,Tryz.results54,go_sem]) rfl ⟨rfl,(Fs.one w _ _).fr⟩
theorem noneOf_quiet (E F b pl : Int) (HP : Tel 53 #[.agg #[.int .i64 E,.int .i64 F],.int .u64 b] (.tuple #[.int .u64 pl,.bool true,.int .i64 0])) (w : World)  :
  Calls Tryz.prog 44 #[.agg #[.int .i64 E,.int .i64 F],.int .u64 b] w fun e w' => e = .returned (.agg #[.int .u8 0]) ∧ Below w.heap.size w w' := by
 go_enter Tryz.func44,Tryz.ntmps44
 go_wp2_with fail
 refine (HP _).mono ?_
 rintro e w1 ⟨rfl,hb1⟩
 have hS := (Fs.two w _ _ _ _).kept hb1
 obtain ⟨⟨ya,yb,-⟩,⟨yc,-⟩,-⟩ := hS.cells
 have fz0 := hS.frozen (b := w.heap.size + 1) (cs := #[.int .u8 0]) (t := 44) (by simp) 0
 go_wp2
 skip
 exact bodyPost_ret (v := .agg #[.int .u8 0]) (by simp [results,Tryz.results44,go_sem,yc]) rfl ⟨rfl,(hS.fr.setCell (by simp) _)⟩
theorem noneOf_loud (E F b pl : Int) (HP : Tel 53 #[.agg #[.int .i64 E,.int .i64 F],.int .u64 b] (.tuple #[.int .u64 pl,.bool false,.int .i64 0])) (w : World)  :
  Calls Tryz.prog 44 #[.agg #[.int .i64 E,.int .i64 F],.int .u64 b] w fun e w' => e = .returned (.agg #[.int .u8 16]) ∧ Below w.heap.size w w' := by
 go_enter Tryz.func44,Tryz.ntmps44
 go_wp2_with fail
 refine (HP _).mono ?_
 rintro e w1 ⟨rfl,hb1⟩
 have hS := (Fs.two w _ _ _ _).kept hb1
 obtain ⟨⟨ya,yb,-⟩,⟨yc,-⟩,-⟩ := hS.cells
 go_wp2_with fail
 refine (invalid_is _).mono ?_
 rintro e w2 ⟨rfl,hb2⟩
 replace hS := hS.kept hb2
 clear ya yb yc
 obtain ⟨⟨yd,ye,-⟩,⟨yf,-⟩,-⟩ := hS.cells
 have fz0 := hS.frozen (b := w.heap.size + 1) (cs := #[.int .u8 0]) (t := 44) (by simp) 0
 go_wp2
 skip
 exact bodyPost_ret (v := .agg #[.int .u8 16]) (by simp [results,Tryz.results44,go_sem,yf]) rfl ⟨rfl,(hS.fr.setCell (by simp) _)⟩
theorem floatOf_nan (E F b ex fr : Int) (neg : Bool) (HC : Tel 42 #[.agg #[.int .i64 E,.int .i64 F],.int .u64 b] (.tuple #[.int .u8 5,.int .i64 0])) (HS : Tel 43 #[.agg #[.int .i64 E,.int .i64 F],.int .u64 b] (.tuple #[.agg #[.bool neg,.int .i64 ex,.int .u64 fr],.int .i64 0])) (fl : Int) (HN : Tel 44 #[.agg #[.int .i64 E,.int .i64 F],.int .u64 b] (.agg #[.int .u8 fl])) (w : World)  :
  Calls Tryz.prog 35 #[.agg #[.int .i64 E,.int .i64 F],.int .u64 b] w fun e w' => e = .returned (.iface 44 (.agg #[.int .u8 fl])) ∧ Below w.heap.size w w' := by
 go_enter Tryz.func35,Tryz.ntmps35
 go_wp2_with fail
 refine (HC _).mono ?_
 rintro e w1 ⟨rfl,hb1⟩
 have hS := (Fs.one w _ _).kept hb1
 obtain ⟨⟨ya,yb,-⟩,-⟩ := hS.cells
 go_wp2_with fail
 refine (HS _).mono ?_
 rintro e w2 ⟨rfl,hb2⟩
 replace hS := hS.kept hb2
 clear ya yb
 obtain ⟨⟨yc,yd,-⟩,-⟩ := hS.cells
 have hltw2_0 : w.heap.size < w2.heap.size := hS.lt 0 rfl
 obtain ⟨WV,hWV⟩ : ∃ WV,w2.alloc (.cells #[.bool neg,.int .i64 ex,.int .u64 fr] 72) = WV := ⟨_,rfl⟩
 replace hS := hS.alloc #[.bool neg,.int .i64 ex,.int .u64 fr] 72
 rw [hWV] at hS
 clear yc yd
 obtain ⟨⟨ye,yf,yg,-⟩,⟨yh,yi,-⟩,-⟩ := hS.cells
 go_wp2_with fail
 refine (HN _).mono ?_
 rintro e w3 ⟨rfl,hb3⟩
 replace hS := hS.kept hb3
 clear ye yf yg yh yi
 obtain ⟨⟨yj,yk,yl,-⟩,⟨ym,yn,-⟩,-⟩ := hS.cells
 go_wp2
 go_ret
 exact ⟨rfl,hS.fr⟩
theorem floatOf_inf (E F b ex fr : Int) (neg : Bool) (HC : Tel 42 #[.agg #[.int .i64 E,.int .i64 F],.int .u64 b] (.tuple #[.int .u8 4,.int .i64 0])) (HS : Tel 43 #[.agg #[.int .i64 E,.int .i64 F],.int .u64 b] (.tuple #[.agg #[.bool neg,.int .i64 ex,.int .u64 fr],.int .i64 0]))  (w : World)  :
  Calls Tryz.prog 35 #[.agg #[.int .i64 E,.int .i64 F],.int .u64 b] w fun e w' => e = .returned (.iface 84 (.agg #[.bool neg,.int .u8 0])) ∧ Below w.heap.size w w' := by
 go_enter Tryz.func35,Tryz.ntmps35
 go_wp2_with fail
 refine (HC _).mono ?_
 rintro e w1 ⟨rfl,hb1⟩
 have hS := (Fs.one w _ _).kept hb1
 obtain ⟨⟨ya,yb,-⟩,-⟩ := hS.cells
 go_wp2_with fail
 refine (HS _).mono ?_
 rintro e w2 ⟨rfl,hb2⟩
 replace hS := hS.kept hb2
 clear ya yb
 obtain ⟨⟨yc,yd,-⟩,-⟩ := hS.cells
 have hltw2_0 : w.heap.size < w2.heap.size := hS.lt 0 rfl
 obtain ⟨WV,hWV⟩ : ∃ WV,w2.alloc (.cells #[.bool neg,.int .i64 ex,.int .u64 fr] 72) = WV := ⟨_,rfl⟩
 replace hS := hS.alloc #[.bool neg,.int .i64 ex,.int .u64 fr] 72
 rw [hWV] at hS
 clear yc yd
 obtain ⟨⟨ye,yf,yg,-⟩,⟨yh,yi,-⟩,-⟩ := hS.cells
 go_wp2
 go_ret
 exact ⟨rfl,hS.fr⟩
theorem floatOf_zero (E F b ex fr : Int) (neg : Bool) (HC : Tel 42 #[.agg #[.int .i64 E,.int .i64 F],.int .u64 b] (.tuple #[.int .u8 1,.int .i64 0])) (HS : Tel 43 #[.agg #[.int .i64 E,.int .i64 F],.int .u64 b] (.tuple #[.agg #[.bool neg,.int .i64 ex,.int .u64 fr],.int .i64 0]))  (w : World)  :
  Calls Tryz.prog 35 #[.agg #[.int .i64 E,.int .i64 F],.int .u64 b] w fun e w' => e = .returned (.iface 85 (.agg #[.bool neg,.int .u8 0])) ∧ Below w.heap.size w w' := by
 go_enter Tryz.func35,Tryz.ntmps35
 go_wp2_with fail
 refine (HC _).mono ?_
 rintro e w1 ⟨rfl,hb1⟩
 have hS := (Fs.one w _ _).kept hb1
 obtain ⟨⟨ya,yb,-⟩,-⟩ := hS.cells
 go_wp2_with fail
 refine (HS _).mono ?_
 rintro e w2 ⟨rfl,hb2⟩
 replace hS := hS.kept hb2
 clear ya yb
 obtain ⟨⟨yc,yd,-⟩,-⟩ := hS.cells
 have hltw2_0 : w.heap.size < w2.heap.size := hS.lt 0 rfl
 obtain ⟨WV,hWV⟩ : ∃ WV,w2.alloc (.cells #[.bool neg,.int .i64 ex,.int .u64 fr] 72) = WV := ⟨_,rfl⟩
 replace hS := hS.alloc #[.bool neg,.int .i64 ex,.int .u64 fr] 72
 rw [hWV] at hS
 clear yc yd
 obtain ⟨⟨ye,yf,yg,-⟩,⟨yh,yi,-⟩,-⟩ := hS.cells
 go_wp2
 go_ret
 exact ⟨rfl,hS.fr⟩
theorem floatOf_num (E F b c ex fr : Int) (neg : Bool) (HC : Tel 42 #[.agg #[.int .i64 E,.int .i64 F],.int .u64 b] (.tuple #[.int .u8 c,.int .i64 0])) (HS : Tel 43 #[.agg #[.int .i64 E,.int .i64 F],.int .u64 b] (.tuple #[.agg #[.bool neg,.int .i64 ex,.int .u64 fr],.int .i64 0])) (h5 : (c == (5 : Int)) = false) (h4 : (c == (4 : Int)) = false) (h1 : (c == (1 : Int)) = false) (s : Bool) (m : Nat) (x : Int) (HV : Hid (Vals E F b s m x)) (w : World) (hT : Tb w) :
  Calls Tryz.prog 35 #[.agg #[.int .i64 E,.int .i64 F],.int .u64 b] w fun e w' => (∃ t y,e = .returned (.iface t y) ∧ Flt w' w.heap.size (.iface t y) (.num s m x 0)) ∧ Below w.heap.size w w' := by
 have HT := hide hT
 clear hT
 go_enter Tryz.func35,Tryz.ntmps35
 go_wp2_with fail
 refine (HC _).mono ?_
 rintro e w1 ⟨rfl,hb1⟩
 have hS := (Fs.one w _ _).kept hb1
 obtain ⟨⟨ya,yb,-⟩,-⟩ := hS.cells
 go_wp2_with fail
 refine (HS _).mono ?_
 rintro e w2 ⟨rfl,hb2⟩
 replace hS := hS.kept hb2
 clear ya yb
 obtain ⟨⟨yc,yd,-⟩,-⟩ := hS.cells
 have hltw2_0 : w.heap.size < w2.heap.size := hS.lt 0 rfl
 obtain ⟨WV,hWV⟩ : ∃ WV,w2.alloc (.cells #[.bool neg,.int .i64 ex,.int .u64 fr] 72) = WV := ⟨_,rfl⟩
 replace hS := hS.alloc #[.bool neg,.int .i64 ex,.int .u64 fr] 72
 rw [hWV] at hS
 clear yc yd
 obtain ⟨⟨ye,yf,yg,-⟩,⟨yh,yi,-⟩,-⟩ := hS.cells
 have hsV := hS.size
 go_wp2_with fail
 refine (unhide HV _ ((unhide HT).kept hS.fr)).mono ?_
 rintro e w3 ⟨⟨A1,N1,C1,rfl,f1⟩,hb3⟩
 replace hS := hS.kept hb3
 clear ye yf yg yh yi
 obtain ⟨⟨yj,yk,yl,-⟩,⟨ym,yn,-⟩,-⟩ := hS.cells
 have G1 := hide (f1.mono (base' := w.heap.size) hsV)
 clear f1
 have hltw3_0 : w2.heap.size < w3.heap.size := hS.lt 0 rfl
 have hltw3_1 : w.heap.size < w3.heap.size := hS.lt 1 rfl
 obtain ⟨WU,hWU⟩ : ∃ WU,w3.alloc (.cells #[.bool s,.slice A1 N1 C1,.int .i64 x] 57) = WU := ⟨_,rfl⟩
 replace hS := hS.alloc #[.bool s,.slice A1 N1 C1,.int .i64 x] 57
 rw [hWU] at hS
 replace G1 := hide (hWU ▸ (unhide G1).alloc (.cells #[.bool s,.slice A1 N1 C1,.int .i64 x] 57))
 clear yj yk yl ym yn
 obtain ⟨⟨yo,yp,yq,-⟩,⟨yr,ys,yt,-⟩,⟨yu,yv,-⟩,-⟩ := hS.cells
 go_wp2
 go_ret
 exact ⟨⟨_,_,rfl,_,_,_,rfl,unhide G1⟩,hS.fr⟩
def Nl2 (base b : Nat) (n0 q0 n1 q1 : Bool) (W : World) : Prop := base ≤ b ∧ ∃ (cs : Array Value) (t : TypeId),W.heap[b]? = some (.cells cs t (0,0)) ∧ cs[1]? = some (.bool n0) ∧ cs[2]? = some (.bool q0) ∧ cs[8]? = some (.bool n1) ∧ cs[9]? = some (.bool q1)
theorem st_nl2 (base b : Nat) (n0 q0 n1 q1 : Bool) : St base (Nl2 base b n0 q0 n1 q1) :=
 ⟨fun W W' hb h => by obtain ⟨h0,cs,t,h1,h2⟩ := h; exact ⟨h0,cs,t,by rw [hb.block b (block_lt h1)]; exact h1,h2⟩,
  fun W p u hp h => by obtain ⟨h0,cs,t,h1,h2⟩ := h; exact ⟨h0,cs,t,by rw [heap_setCell_other W p b u (by omega)]; exact h1,h2⟩⟩
theorem Nl2.made {W : World} {base : Nat} {n0 q0 n1 q1 : Bool} {cs : Array Value} {t : TypeId} (hb : base ≤ W.heap.size) (h1 : cs[1]? = some (.bool n0)) (h2 : cs[2]? = some (.bool q0)) (h3 : cs[8]? = some (.bool n1)) (h4 : cs[9]? = some (.bool q1)) : Nl2 base W.heap.size n0 q0 n1 q1 (W.alloc (.cells cs t)) := ⟨hb,cs,t,heap_alloc_new W _,h1,h2,h3,h4⟩
theorem nans2_of (W : World) (base b : Nat) (n0 q0 n1 q1 : Bool) (h : Nl2 base b n0 q0 n1 q1 W) :
  Calls Tryz.prog 26 #[.slice (some ⟨b,0,none⟩) 2 2] W fun e w' => e = .returned (.tuple #[.bool (n0 || n1),.int .u8 (fl16 ((n0 && !q0) || (n1 && !q1)))]) ∧ Below W.heap.size W w' := by
 obtain ⟨-,cs,t,h0,h1,h2,h3,h4⟩ := h
 exact nans2_c b n0 q0 n1 q1 W ((cell_of_row W b 1 _ _ _ h0).trans h1) ((cell_of_row W b 2 _ _ _ h0).trans h2) ((cell_of_row W b 8 _ _ _ h0).trans h3) ((cell_of_row W b 9 _ _ _ h0).trans h4)
theorem pick_err1 (E F a b : Int) (gr : Bool) (c : Int) (hc : (c == (0 : Int)) = false) (H0 : Tel 15 #[.agg #[.int .i64 E,.int .i64 F],.int .u64 a] (.int .i64 c)) (w : World)  :
  Calls Tryz.prog 18 #[.agg #[.int .i64 E,.int .i64 F],.int .u64 a,.int .u64 b,.bool gr] w fun e w' => e = .returned (.tuple #[.int .u64 0,.int .i64 c]) ∧ Below w.heap.size w w' := by
 go_enter Tryz.func18,Tryz.ntmps18
 go_wp2_with fail
 refine (asked2_err1 E F 0 c _ a b H0 hc _ (by have := heap_alloc_new (w.alloc (.cells #[.int .i64 E,.int .i64 F] 23)) (.cells #[.int .u64 a,.int .u64 b] 24); simpa only [World.size_alloc] using this)).mono ?_
 rintro e w1 ⟨rfl,hb1⟩
 have hS : Fs w (w.alloc (.cells #[.int .i64 E,.int .i64 F] 23)) [⟨w.heap.size,#[.int .i64 E,.int .i64 F],23⟩] := Fs.one w _ _
 replace hS := ((hS.alloc #[.int .u64 a,.int .u64 b] 24).kept hb1).sub (fun x hx => List.mem_cons_of_mem _ hx)
 obtain ⟨⟨ya,yb,-⟩,-⟩ := hS.cells
 go_wp2
 go_ret2
 exact ⟨rfl,hS.fr⟩
theorem pick_err2 (E F a b : Int) (gr : Bool) (c : Int) (hc : (c == (0 : Int)) = false) (H0 : Tel 15 #[.agg #[.int .i64 E,.int .i64 F],.int .u64 a] (.int .i64 0)) (H1 : Tel 15 #[.agg #[.int .i64 E,.int .i64 F],.int .u64 b] (.int .i64 c)) (w : World)  :
  Calls Tryz.prog 18 #[.agg #[.int .i64 E,.int .i64 F],.int .u64 a,.int .u64 b,.bool gr] w fun e w' => e = .returned (.tuple #[.int .u64 0,.int .i64 c]) ∧ Below w.heap.size w w' := by
 go_enter Tryz.func18,Tryz.ntmps18
 go_wp2_with fail
 refine (asked2_err2 E F 0 c _ a b H0 H1 hc _ (by have := heap_alloc_new (w.alloc (.cells #[.int .i64 E,.int .i64 F] 23)) (.cells #[.int .u64 a,.int .u64 b] 24); simpa only [World.size_alloc] using this)).mono ?_
 rintro e w1 ⟨rfl,hb1⟩
 have hS : Fs w (w.alloc (.cells #[.int .i64 E,.int .i64 F] 23)) [⟨w.heap.size,#[.int .i64 E,.int .i64 F],23⟩] := Fs.one w _ _
 replace hS := ((hS.alloc #[.int .u64 a,.int .u64 b] 24).kept hb1).sub (fun x hx => List.mem_cons_of_mem _ hx)
 obtain ⟨⟨ya,yb,-⟩,-⟩ := hS.cells
 go_wp2
 go_ret2
 exact ⟨rfl,hS.fr⟩
theorem pick_nan (E F a b : Int) (H0 : Tel 15 #[.agg #[.int .i64 E,.int .i64 F],.int .u64 a] (.int .i64 0)) (H1 : Tel 15 #[.agg #[.int .i64 E,.int .i64 F],.int .u64 b] (.int .i64 0)) (g0 n0 q0 i0 s0 g1 n1 q1 i1 s1 : Bool) (m0 m1 : Nat) (x0 x1 : Int) (HO0 : Hid (OpR E F a g0 n0 q0 i0 s0 m0 x0)) (HO1 : Hid (OpR E F b g1 n1 q1 i1 s1 m1 x1)) (gr : Bool) (hr : (n0 || n1) = true) (n : Int) (HM : Tel 28 #[.agg #[.int .i64 E,.int .i64 F]] (.int .u64 n)) (w : World)  :
  Calls Tryz.prog 18 #[.agg #[.int .i64 E,.int .i64 F],.int .u64 a,.int .u64 b,.bool gr] w fun e w' => e = .returned (.tuple #[.int .u64 n,.int .i64 0]) ∧ Below w.heap.size w w' := by
 have HN : Hid (∀ (W : World) (base b : Nat),Nl2 base b n0 q0 n1 q1 W → Calls Tryz.prog 26 #[.slice (some ⟨b,0,none⟩) 2 2] W fun e w' => e = .returned (.tuple #[.bool true,.int .u8 (fl16 ((n0 && !q0) || (n1 && !q1)))]) ∧ Below W.heap.size W w') := hide (fun W base b h => by have := nans2_of W base b n0 q0 n1 q1 h; rw [hr] at this; exact this)
 obtain ⟨fl,hfl⟩ : ∃ fl,fl16 ((n0 && !q0) || (n1 && !q1)) = fl := ⟨_,rfl⟩
 rw [hfl] at HN
 clear hr hfl
 go_enter Tryz.func18,Tryz.ntmps18
 go_wp2_with fail
 refine (asked2_ok E F 0 _ a b H0 H1 (by decide) _ (by have := heap_alloc_new (w.alloc (.cells #[.int .i64 E,.int .i64 F] 23)) (.cells #[.int .u64 a,.int .u64 b] 24); simpa only [World.size_alloc] using this)).mono ?_
 rintro e w1 ⟨rfl,hb1⟩
 have hS : Fs w (w.alloc (.cells #[.int .i64 E,.int .i64 F] 23)) [⟨w.heap.size,#[.int .i64 E,.int .i64 F],23⟩] := Fs.one w _ _
 replace hS := ((hS.alloc #[.int .u64 a,.int .u64 b] 24).kept hb1).sub (fun x hx => List.mem_cons_of_mem _ hx)
 obtain ⟨⟨ya,yb,-⟩,-⟩ := hS.cells
 go_wp2_with fail
 have hS3s : w.heap.size ≤ w1.heap.size := hS.size
 have hs9 : ∀ x9 : Nat × (Pk → World → Prop),x9 ∈ ([(2,fun q W => Mine W w1.heap.size q.A q.N q.C m0),(5,fun q W => Mine W w1.heap.size q.A q.N q.C m1),(6,fun q W => Nl2 w1.heap.size q.N n0 q0 n1 q1 W)] : List (Nat × (Pk → World → Prop))) → ∀ q9 : Pk,St w1.heap.size (x9.2 q9) := by
  intro x hx q
  simp only [List.mem_cons,List.not_mem_nil,or_false] at hx
  rcases hx with rfl | rfl | rfl
  ·exact st_mine _ _ _ _ _
  ·exact st_mine _ _ _ _ _
  ·exact st_nl2 _ _ _ _ _ _
 have h09 : ∀ x9 : Nat × (Pk → World → Prop),x9 ∈ ([(2,fun q W => Mine W w1.heap.size q.A q.N q.C m0),(5,fun q W => Mine W w1.heap.size q.A q.N q.C m1),(6,fun q W => Nl2 w1.heap.size q.N n0 q0 n1 q1 W)] : List (Nat × (Pk → World → Prop))) → 13 ≤ x9.1 → x9.2 ⟨none,0,0⟩ w1 := by
  intro x hx hn9
  simp only [List.mem_cons,List.not_mem_nil,or_false] at hx
  rcases hx with rfl | rfl | rfl
  ·exact absurd hn9 (by simp)
  ·exact absurd hn9 (by simp)
  ·exact absurd hn9 (by simp)
 refine wp_region_any (by kernel_rfl) ?_
 refine wpAny_pick (fun p9 => [some (22,.agg #[.int .i64 E,.int .i64 F]),some (23,.int .u64 a),some (24,.agg #[.bool g0,.bool n0,.bool q0,.bool i0,.bool s0,.slice (p9 2).A (p9 2).N (p9 2).C,.int .i64 x0]),some (25,.agg #[.int .i64 E,.int .i64 F]),some (26,.int .u64 b),some (27,.agg #[.bool g1,.bool n1,.bool q1,.bool i1,.bool s1,.slice (p9 5).A (p9 5).N (p9 5).C,.int .i64 x1]),some (28,.slice (some ⟨(p9 6).N,0,none⟩) 2 2),some (29,.tuple #[.bool true,.int .u8 fl]),some (21,.tuple #[.bool true,.int .u8 fl]),some (30,.bool true),some (31,.int .u8 fl),some (11,.bool true),some (12,.int .u8 fl)])
  (fun p9 l9 W9 => Pm w w1.heap.size [(2,fun q W => Mine W w1.heap.size q.A q.N q.C m0),(5,fun q W => Mine W w1.heap.size q.A q.N q.C m1),(6,fun q W => Nl2 w1.heap.size q.N n0 q0 n1 q1 W)] p9 l9 W9 [⟨w.heap.size,#[.int .i64 E,.int .i64 F],23⟩]) _ _ (fun _ => rfl) (by kernel_rfl) (fun _ => rfl) (fun _ => rfl) ?_ ?_ (fun _ => ⟨none,0,0⟩) (Pm.start hS _ _ _ hs9 h09)
 ·intro p9 l9 t9 W9 i9 hD hi9 hl9 hM
  obtain ⟨o9,ho9,hd9⟩ := (mem_ready.1 hi9).2
  have hin9 : i9 < 13 := by
   by_cases h : i9 < 13
   ·exact h
   ·rw [Array.getElem?_eq_none (by rw [hD.len]; simp; omega)] at hl9; cases hl9
  have hcase : i9 = 0 ∨ i9 = 1 ∨ i9 = 2 ∨ i9 = 3 ∨ i9 = 4 ∨ i9 = 5 ∨ i9 = 6 ∨ i9 = 7 ∨ i9 = 8 ∨ i9 = 9 ∨ i9 = 10 ∨ i9 = 11 ∨ i9 = 12 := by omega
  clear hin9
  rcases hcase with rfl | rfl | rfl | rfl | rfl | rfl | rfl | rfl | rfl | rfl | rfl | rfl | rfl
  ·cases ho9
   have r4 := hD.old 4 _ rfl rfl
   have hM0 := hM.st
   have Q_ := hM0.cellAt (b := w.heap.size) (cs := #[.int .i64 E,.int .i64 F]) (t := 23) (by simp)
   have c9_0 := Q_ 0 _ rfl
   have c9_1 := Q_ 1 _ rfl
   clear Q_
   clear hM0
   refine wpOp_step rfl fun K hK => ?_
   go_simp
   exact hK _ _ ⟨p9,fun _ _ => rfl,rfl,(hM.val rfl)⟩
  ·cases ho9
   have r1 := hD.old 1 _ rfl rfl
   refine wpOp_step rfl fun K hK => ?_
   go_simp
   exact hK _ _ ⟨p9,fun _ _ => rfl,rfl,(hM.val rfl)⟩
  ·cases ho9
   have r22 := hD.od hd9 0 22 _ rfl (by simp)
   have r23 := hD.od hd9 1 23 _ rfl (by simp)
   have HD := hide hD
   refine wpOp_step rfl fun K hK => ?_
   go_simp
   go_wp2_with fail
   refine (unhide HO0 _).mono ?_
   rintro en w9 ⟨⟨a9,n9,c9,rfl,h9⟩,hb9⟩
   refine hK _ _ ⟨p9.set 2 ⟨a9,n9,c9⟩,?_,rfl,((hM.kept hs9 hb9).pick ⟨a9,n9,c9⟩ ?_)⟩
   ·intro k9 hk9
    clear hM hK
    match k9,hk9 with
    | 0,_ => rfl
    | 1,_ => rfl
    | 2,hk9 => exact absurd (hl9.symm.trans hk9) (by simp)
    | 3,_ => rfl
    | 4,_ => rfl
    | 5,hk9 => exact absurd (hl9.symm.trans (getD_true ((unhide HD).shut 5 _ (hk9) rfl ⟨2,.chain⟩ (by simp) rfl))) (by simp)
    | 6,hk9 => exact absurd (hl9.symm.trans (getD_true ((unhide HD).shut 6 _ (hk9) rfl ⟨2,.data⟩ (by simp) rfl))) (by simp)
    | 7,hk9 => exact absurd (hl9.symm.trans (getD_true ((unhide HD).shut 6 _ (getD_true ((unhide HD).shut 7 _ (hk9) rfl ⟨6,.data⟩ (by simp) rfl)) rfl ⟨2,.data⟩ (by simp) rfl))) (by simp)
    | 8,hk9 => exact absurd (hl9.symm.trans (getD_true ((unhide HD).shut 6 _ (getD_true ((unhide HD).shut 7 _ (getD_true ((unhide HD).shut 8 _ (hk9) rfl ⟨7,.data⟩ (by simp) rfl)) rfl ⟨6,.data⟩ (by simp) rfl)) rfl ⟨2,.data⟩ (by simp) rfl))) (by simp)
    | 9,hk9 => exact absurd (hl9.symm.trans (getD_true ((unhide HD).shut 6 _ (getD_true ((unhide HD).shut 7 _ (getD_true ((unhide HD).shut 8 _ (getD_true ((unhide HD).shut 9 _ (hk9) rfl ⟨8,.data⟩ (by simp) rfl)) rfl ⟨7,.data⟩ (by simp) rfl)) rfl ⟨6,.data⟩ (by simp) rfl)) rfl ⟨2,.data⟩ (by simp) rfl))) (by simp)
    | 10,hk9 => exact absurd (hl9.symm.trans (getD_true ((unhide HD).shut 6 _ (getD_true ((unhide HD).shut 7 _ (getD_true ((unhide HD).shut 8 _ (getD_true ((unhide HD).shut 10 _ (hk9) rfl ⟨8,.data⟩ (by simp) rfl)) rfl ⟨7,.data⟩ (by simp) rfl)) rfl ⟨6,.data⟩ (by simp) rfl)) rfl ⟨2,.data⟩ (by simp) rfl))) (by simp)
    | 11,hk9 => exact absurd (hl9.symm.trans (getD_true ((unhide HD).shut 11 _ (hk9) rfl ⟨2,.phase⟩ (by simp) rfl))) (by simp)
    | 12,hk9 => exact absurd (hl9.symm.trans (getD_true ((unhide HD).shut 12 _ (hk9) rfl ⟨2,.phase⟩ (by simp) rfl))) (by simp)
    | k9 + 13,_ => rfl
   ·intro x hx he; simp only [List.mem_cons,List.not_mem_nil,or_false] at hx; rcases hx with rfl | rfl | rfl
    ·exact h9.mono hM.bw
    ·exact absurd he (by simp)
    ·exact absurd he (by simp)
  ·cases ho9
   have r4 := hD.old 4 _ rfl rfl
   have hM0 := hM.st
   have Q_ := hM0.cellAt (b := w.heap.size) (cs := #[.int .i64 E,.int .i64 F]) (t := 23) (by simp)
   have c9_0 := Q_ 0 _ rfl
   have c9_1 := Q_ 1 _ rfl
   clear Q_
   clear hM0
   refine wpOp_step rfl fun K hK => ?_
   go_simp
   exact hK _ _ ⟨p9,fun _ _ => rfl,rfl,(hM.val rfl)⟩
  ·cases ho9
   have r2 := hD.old 2 _ rfl rfl
   refine wpOp_step rfl fun K hK => ?_
   go_simp
   exact hK _ _ ⟨p9,fun _ _ => rfl,rfl,(hM.val rfl)⟩
  ·cases ho9
   have r25 := hD.od hd9 3 25 _ rfl (by simp)
   have r26 := hD.od hd9 4 26 _ rfl (by simp)
   have g2 := hM.fx _ (List.mem_of_getElem? (i := 0) rfl) (Or.inl (getD_true (hd9 ⟨2,.chain⟩ (by simp) rfl)))
   simp only [] at g2
   have HD := hide hD
   refine wpOp_step rfl fun K hK => ?_
   go_simp
   go_wp2_with fail
   refine (unhide HO1 _).mono ?_
   rintro en w9 ⟨⟨a9,n9,c9,rfl,h9⟩,hb9⟩
   refine hK _ _ ⟨p9.set 5 ⟨a9,n9,c9⟩,?_,rfl,((hM.kept hs9 hb9).pick ⟨a9,n9,c9⟩ ?_)⟩
   ·intro k9 hk9
    clear hM hK
    match k9,hk9 with
    | 0,_ => rfl
    | 1,_ => rfl
    | 2,_ => rfl
    | 3,_ => rfl
    | 4,_ => rfl
    | 5,hk9 => exact absurd (hl9.symm.trans hk9) (by simp)
    | 6,hk9 => exact absurd (hl9.symm.trans (getD_true ((unhide HD).shut 6 _ (hk9) rfl ⟨5,.data⟩ (by simp) rfl))) (by simp)
    | 7,hk9 => exact absurd (hl9.symm.trans (getD_true ((unhide HD).shut 7 _ (hk9) rfl ⟨5,.chain⟩ (by simp) rfl))) (by simp)
    | 8,hk9 => exact absurd (hl9.symm.trans (getD_true ((unhide HD).shut 7 _ (getD_true ((unhide HD).shut 8 _ (hk9) rfl ⟨7,.data⟩ (by simp) rfl)) rfl ⟨5,.chain⟩ (by simp) rfl))) (by simp)
    | 9,hk9 => exact absurd (hl9.symm.trans (getD_true ((unhide HD).shut 7 _ (getD_true ((unhide HD).shut 8 _ (getD_true ((unhide HD).shut 9 _ (hk9) rfl ⟨8,.data⟩ (by simp) rfl)) rfl ⟨7,.data⟩ (by simp) rfl)) rfl ⟨5,.chain⟩ (by simp) rfl))) (by simp)
    | 10,hk9 => exact absurd (hl9.symm.trans (getD_true ((unhide HD).shut 7 _ (getD_true ((unhide HD).shut 8 _ (getD_true ((unhide HD).shut 10 _ (hk9) rfl ⟨8,.data⟩ (by simp) rfl)) rfl ⟨7,.data⟩ (by simp) rfl)) rfl ⟨5,.chain⟩ (by simp) rfl))) (by simp)
    | 11,hk9 => exact absurd (hl9.symm.trans (getD_true ((unhide HD).shut 11 _ (hk9) rfl ⟨5,.phase⟩ (by simp) rfl))) (by simp)
    | 12,hk9 => exact absurd (hl9.symm.trans (getD_true ((unhide HD).shut 12 _ (hk9) rfl ⟨5,.phase⟩ (by simp) rfl))) (by simp)
    | k9 + 13,_ => rfl
   ·intro x hx he; simp only [List.mem_cons,List.not_mem_nil,or_false] at hx; rcases hx with rfl | rfl | rfl
    ·exact absurd he (by simp)
    ·exact h9.mono hM.bw
    ·exact absurd he (by simp)
  ·cases ho9
   have r24 := hD.od hd9 2 24 _ rfl (by simp)
   have r27 := hD.od hd9 5 27 _ rfl (by simp)
   have g2 := hM.fx _ (List.mem_of_getElem? (i := 0) rfl) (Or.inl (getD_true (hd9 ⟨2,.data⟩ (by simp) rfl)))
   simp only [] at g2
   have g5 := hM.fx _ (List.mem_of_getElem? (i := 1) rfl) (Or.inl (getD_true (hd9 ⟨5,.data⟩ (by simp) rfl)))
   simp only [] at g5
   have HD := hide hD
   refine wpOp_step rfl fun K hK => ?_
   go_simp
   have hb9 := gr_alloc W9 (.cells #[.bool g0,.bool n0,.bool q0,.bool i0,.bool s0,.slice (p9 2).A (p9 2).N (p9 2).C,.int .i64 x0,.bool g1,.bool n1,.bool q1,.bool i1,.bool s1,.slice (p9 5).A (p9 5).N (p9 5).C,.int .i64 x1] 59)
   refine hK _ _ ⟨p9.set 6 ⟨none,W9.heap.size,0⟩,?_,rfl,((hM.kept hs9 hb9).pick ⟨none,W9.heap.size,0⟩ ?_)⟩
   ·intro k9 hk9
    clear hM hK
    match k9,hk9 with
    | 0,_ => rfl
    | 1,_ => rfl
    | 2,_ => rfl
    | 3,_ => rfl
    | 4,_ => rfl
    | 5,_ => rfl
    | 6,hk9 => exact absurd (hl9.symm.trans hk9) (by simp)
    | 7,hk9 => exact absurd (hl9.symm.trans (getD_true ((unhide HD).shut 7 _ (hk9) rfl ⟨6,.data⟩ (by simp) rfl))) (by simp)
    | 8,hk9 => exact absurd (hl9.symm.trans (getD_true ((unhide HD).shut 7 _ (getD_true ((unhide HD).shut 8 _ (hk9) rfl ⟨7,.data⟩ (by simp) rfl)) rfl ⟨6,.data⟩ (by simp) rfl))) (by simp)
    | 9,hk9 => exact absurd (hl9.symm.trans (getD_true ((unhide HD).shut 7 _ (getD_true ((unhide HD).shut 8 _ (getD_true ((unhide HD).shut 9 _ (hk9) rfl ⟨8,.data⟩ (by simp) rfl)) rfl ⟨7,.data⟩ (by simp) rfl)) rfl ⟨6,.data⟩ (by simp) rfl))) (by simp)
    | 10,hk9 => exact absurd (hl9.symm.trans (getD_true ((unhide HD).shut 7 _ (getD_true ((unhide HD).shut 8 _ (getD_true ((unhide HD).shut 10 _ (hk9) rfl ⟨8,.data⟩ (by simp) rfl)) rfl ⟨7,.data⟩ (by simp) rfl)) rfl ⟨6,.data⟩ (by simp) rfl))) (by simp)
    | 11,hk9 => exact absurd (hl9.symm.trans (getD_true ((unhide HD).shut 11 _ (hk9) rfl ⟨6,.phase⟩ (by simp) rfl))) (by simp)
    | 12,hk9 => exact absurd (hl9.symm.trans (getD_true ((unhide HD).shut 12 _ (hk9) rfl ⟨6,.phase⟩ (by simp) rfl))) (by simp)
    | k9 + 13,_ => rfl
   ·intro x hx he; simp only [List.mem_cons,List.not_mem_nil,or_false] at hx; rcases hx with rfl | rfl | rfl
    ·exact absurd he (by simp)
    ·exact absurd he (by simp)
    ·exact Nl2.made hM.bw rfl rfl rfl rfl
  ·cases ho9
   have r28 := hD.od hd9 6 28 _ rfl (by simp)
   have g2 := hM.fx _ (List.mem_of_getElem? (i := 0) rfl) (Or.inl (getD_true (hD.shut 6 _ (getD_true (hd9 ⟨6,.data⟩ (by simp) rfl)) rfl ⟨2,.data⟩ (by simp) rfl)))
   simp only [] at g2
   have g5 := hM.fx _ (List.mem_of_getElem? (i := 1) rfl) (Or.inl (getD_true (hd9 ⟨5,.chain⟩ (by simp) rfl)))
   simp only [] at g5
   have g6 := hM.fx _ (List.mem_of_getElem? (i := 2) rfl) (Or.inl (getD_true (hd9 ⟨6,.data⟩ (by simp) rfl)))
   simp only [] at g6
   refine wpOp_step rfl fun K hK => ?_
   go_simp
   go_wp2_with fail
   refine (unhide HN _ _ _ g6).mono ?_
   rintro en w9 ⟨rfl,hb9⟩
   exact hK _ _ ⟨p9,fun _ _ => rfl,rfl,((hM.kept hs9 hb9).val rfl)⟩
  ·cases ho9
   have r29 := hD.od hd9 7 29 _ rfl (by simp)
   refine wpOp_step rfl fun K hK => ?_
   go_simp
   exact hK _ _ ⟨p9,fun _ _ => rfl,rfl,(hM.val rfl)⟩
  ·cases ho9
   have r21 := hD.od hd9 8 21 _ rfl (by simp)
   refine wpOp_step rfl fun K hK => ?_
   go_simp
   exact hK _ _ ⟨p9,fun _ _ => rfl,rfl,(hM.val rfl)⟩
  ·cases ho9
   have r21 := hD.od hd9 8 21 _ rfl (by simp)
   refine wpOp_step rfl fun K hK => ?_
   go_simp
   exact hK _ _ ⟨p9,fun _ _ => rfl,rfl,(hM.val rfl)⟩
  ·cases ho9
   have r30 := hD.od hd9 9 30 _ rfl (by simp)
   refine wpOp_step rfl fun K hK => ?_
   go_simp
   exact hK _ _ ⟨p9,fun _ _ => rfl,rfl,(hM.val rfl)⟩
  ·cases ho9
   have r31 := hD.od hd9 10 31 _ rfl (by simp)
   refine wpOp_step rfl fun K hK => ?_
   go_simp
   exact hK _ _ ⟨p9,fun _ _ => rfl,rfl,(hM.val rfl)⟩
 ·intro p9 l9 W9 hn9 hl9 hM
  have fr4_2 := hM.fx _ (List.mem_of_getElem? (i := 0) rfl) (Or.inl (hl9 2 (by decide)))
  have fr4_5 := hM.fx _ (List.mem_of_getElem? (i := 1) rfl) (Or.inl (hl9 5 (by decide)))
  have fr4_6 := hM.fx _ (List.mem_of_getElem? (i := 2) rfl) (Or.inl (hl9 6 (by decide)))
  replace hM := hM.st
  clear hl9 hs9 h09 hn9
  generalize p9 2 = q2 at *
  obtain ⟨Ar4_2,Nr4_2,Cr4_2⟩ := q2
  simp only [] at fr4_2
  generalize p9 5 = q5 at *
  obtain ⟨Ar4_5,Nr4_5,Cr4_5⟩ := q5
  simp only [] at fr4_5
  generalize p9 6 = q6 at *
  obtain ⟨Ar4_6,Nr4_6,Cr4_6⟩ := q6
  simp only [] at fr4_6
  clear hS ya yb
  have hS := hM
  clear hM
  simp only [Puts.lay,List.setIfInBounds_toArray,List.set_cons_zero,List.set_cons_succ]
  obtain ⟨⟨yc,yd,-⟩,-⟩ := hS.cells
  clear fr4_2 fr4_5 fr4_6
  go_wp2_with fail
  refine (HM _).mono ?_
  rintro e w2 ⟨rfl,hb2⟩
  replace hS := hS.kept hb2
  clear yc yd
  obtain ⟨⟨ye,yf,-⟩,-⟩ := hS.cells
  go_wp2
  go_ret2
  exact ⟨rfl,hS.fr⟩
theorem pick_ff (E F a b : Int) (H0 : Tel 15 #[.agg #[.int .i64 E,.int .i64 F],.int .u64 a] (.int .i64 0)) (H1 : Tel 15 #[.agg #[.int .i64 E,.int .i64 F],.int .u64 b] (.int .i64 0)) (g0 n0 q0 i0 s0 g1 n1 q1 i1 s1 : Bool) (m0 m1 : Nat) (x0 x1 : Int) (HO0 : Hid (OpR E F a g0 n0 q0 i0 s0 m0 x0)) (HO1 : Hid (OpR E F b g1 n1 q1 i1 s1 m1 x1)) (hr : (n0 || n1) = false) (HL : Hid (∀ W : World,Calls Tryz.prog 29 #[.agg #[.int .i64 E,.int .i64 F],.int .u64 a,.int .u64 b] W fun e w' => e = .returned (.bool false) ∧ Below W.heap.size W w')) (w : World)  :
  Calls Tryz.prog 18 #[.agg #[.int .i64 E,.int .i64 F],.int .u64 a,.int .u64 b,.bool false] w fun e w' => e = .returned (.tuple #[.int .u64 b,.int .i64 0]) ∧ Below w.heap.size w w' := by
 have HN : Hid (∀ (W : World) (base b : Nat),Nl2 base b n0 q0 n1 q1 W → Calls Tryz.prog 26 #[.slice (some ⟨b,0,none⟩) 2 2] W fun e w' => e = .returned (.tuple #[.bool false,.int .u8 (fl16 ((n0 && !q0) || (n1 && !q1)))]) ∧ Below W.heap.size W w') := hide (fun W base b h => by have := nans2_of W base b n0 q0 n1 q1 h; rw [hr] at this; exact this)
 obtain ⟨fl,hfl⟩ : ∃ fl,fl16 ((n0 && !q0) || (n1 && !q1)) = fl := ⟨_,rfl⟩
 rw [hfl] at HN
 clear hr hfl
 go_enter Tryz.func18,Tryz.ntmps18
 go_wp2_with fail
 refine (asked2_ok E F 0 _ a b H0 H1 (by decide) _ (by have := heap_alloc_new (w.alloc (.cells #[.int .i64 E,.int .i64 F] 23)) (.cells #[.int .u64 a,.int .u64 b] 24); simpa only [World.size_alloc] using this)).mono ?_
 rintro e w1 ⟨rfl,hb1⟩
 have hS : Fs w (w.alloc (.cells #[.int .i64 E,.int .i64 F] 23)) [⟨w.heap.size,#[.int .i64 E,.int .i64 F],23⟩] := Fs.one w _ _
 replace hS := ((hS.alloc #[.int .u64 a,.int .u64 b] 24).kept hb1).sub (fun x hx => List.mem_cons_of_mem _ hx)
 obtain ⟨⟨ya,yb,-⟩,-⟩ := hS.cells
 go_wp2_with fail
 have hS3s : w.heap.size ≤ w1.heap.size := hS.size
 have hs9 : ∀ x9 : Nat × (Pk → World → Prop),x9 ∈ ([(2,fun q W => Mine W w1.heap.size q.A q.N q.C m0),(5,fun q W => Mine W w1.heap.size q.A q.N q.C m1),(6,fun q W => Nl2 w1.heap.size q.N n0 q0 n1 q1 W)] : List (Nat × (Pk → World → Prop))) → ∀ q9 : Pk,St w1.heap.size (x9.2 q9) := by
  intro x hx q
  simp only [List.mem_cons,List.not_mem_nil,or_false] at hx
  rcases hx with rfl | rfl | rfl
  ·exact st_mine _ _ _ _ _
  ·exact st_mine _ _ _ _ _
  ·exact st_nl2 _ _ _ _ _ _
 have h09 : ∀ x9 : Nat × (Pk → World → Prop),x9 ∈ ([(2,fun q W => Mine W w1.heap.size q.A q.N q.C m0),(5,fun q W => Mine W w1.heap.size q.A q.N q.C m1),(6,fun q W => Nl2 w1.heap.size q.N n0 q0 n1 q1 W)] : List (Nat × (Pk → World → Prop))) → 13 ≤ x9.1 → x9.2 ⟨none,0,0⟩ w1 := by
  intro x hx hn9
  simp only [List.mem_cons,List.not_mem_nil,or_false] at hx
  rcases hx with rfl | rfl | rfl
  ·exact absurd hn9 (by simp)
  ·exact absurd hn9 (by simp)
  ·exact absurd hn9 (by simp)
 refine wp_region_any (by kernel_rfl) ?_
 refine wpAny_pick (fun p9 => [some (22,.agg #[.int .i64 E,.int .i64 F]),some (23,.int .u64 a),some (24,.agg #[.bool g0,.bool n0,.bool q0,.bool i0,.bool s0,.slice (p9 2).A (p9 2).N (p9 2).C,.int .i64 x0]),some (25,.agg #[.int .i64 E,.int .i64 F]),some (26,.int .u64 b),some (27,.agg #[.bool g1,.bool n1,.bool q1,.bool i1,.bool s1,.slice (p9 5).A (p9 5).N (p9 5).C,.int .i64 x1]),some (28,.slice (some ⟨(p9 6).N,0,none⟩) 2 2),some (29,.tuple #[.bool false,.int .u8 fl]),some (21,.tuple #[.bool false,.int .u8 fl]),some (30,.bool false),some (31,.int .u8 fl),some (11,.bool false),some (12,.int .u8 fl)])
  (fun p9 l9 W9 => Pm w w1.heap.size [(2,fun q W => Mine W w1.heap.size q.A q.N q.C m0),(5,fun q W => Mine W w1.heap.size q.A q.N q.C m1),(6,fun q W => Nl2 w1.heap.size q.N n0 q0 n1 q1 W)] p9 l9 W9 [⟨w.heap.size,#[.int .i64 E,.int .i64 F],23⟩]) _ _ (fun _ => rfl) (by kernel_rfl) (fun _ => rfl) (fun _ => rfl) ?_ ?_ (fun _ => ⟨none,0,0⟩) (Pm.start hS _ _ _ hs9 h09)
 ·intro p9 l9 t9 W9 i9 hD hi9 hl9 hM
  obtain ⟨o9,ho9,hd9⟩ := (mem_ready.1 hi9).2
  have hin9 : i9 < 13 := by
   by_cases h : i9 < 13
   ·exact h
   ·rw [Array.getElem?_eq_none (by rw [hD.len]; simp; omega)] at hl9; cases hl9
  have hcase : i9 = 0 ∨ i9 = 1 ∨ i9 = 2 ∨ i9 = 3 ∨ i9 = 4 ∨ i9 = 5 ∨ i9 = 6 ∨ i9 = 7 ∨ i9 = 8 ∨ i9 = 9 ∨ i9 = 10 ∨ i9 = 11 ∨ i9 = 12 := by omega
  clear hin9
  rcases hcase with rfl | rfl | rfl | rfl | rfl | rfl | rfl | rfl | rfl | rfl | rfl | rfl | rfl
  ·cases ho9
   have r4 := hD.old 4 _ rfl rfl
   have hM0 := hM.st
   have Q_ := hM0.cellAt (b := w.heap.size) (cs := #[.int .i64 E,.int .i64 F]) (t := 23) (by simp)
   have c9_0 := Q_ 0 _ rfl
   have c9_1 := Q_ 1 _ rfl
   clear Q_
   clear hM0
   refine wpOp_step rfl fun K hK => ?_
   go_simp
   exact hK _ _ ⟨p9,fun _ _ => rfl,rfl,(hM.val rfl)⟩
  ·cases ho9
   have r1 := hD.old 1 _ rfl rfl
   refine wpOp_step rfl fun K hK => ?_
   go_simp
   exact hK _ _ ⟨p9,fun _ _ => rfl,rfl,(hM.val rfl)⟩
  ·cases ho9
   have r22 := hD.od hd9 0 22 _ rfl (by simp)
   have r23 := hD.od hd9 1 23 _ rfl (by simp)
   have HD := hide hD
   refine wpOp_step rfl fun K hK => ?_
   go_simp
   go_wp2_with fail
   refine (unhide HO0 _).mono ?_
   rintro en w9 ⟨⟨a9,n9,c9,rfl,h9⟩,hb9⟩
   refine hK _ _ ⟨p9.set 2 ⟨a9,n9,c9⟩,?_,rfl,((hM.kept hs9 hb9).pick ⟨a9,n9,c9⟩ ?_)⟩
   ·intro k9 hk9
    clear hM hK
    match k9,hk9 with
    | 0,_ => rfl
    | 1,_ => rfl
    | 2,hk9 => exact absurd (hl9.symm.trans hk9) (by simp)
    | 3,_ => rfl
    | 4,_ => rfl
    | 5,hk9 => exact absurd (hl9.symm.trans (getD_true ((unhide HD).shut 5 _ (hk9) rfl ⟨2,.chain⟩ (by simp) rfl))) (by simp)
    | 6,hk9 => exact absurd (hl9.symm.trans (getD_true ((unhide HD).shut 6 _ (hk9) rfl ⟨2,.data⟩ (by simp) rfl))) (by simp)
    | 7,hk9 => exact absurd (hl9.symm.trans (getD_true ((unhide HD).shut 6 _ (getD_true ((unhide HD).shut 7 _ (hk9) rfl ⟨6,.data⟩ (by simp) rfl)) rfl ⟨2,.data⟩ (by simp) rfl))) (by simp)
    | 8,hk9 => exact absurd (hl9.symm.trans (getD_true ((unhide HD).shut 6 _ (getD_true ((unhide HD).shut 7 _ (getD_true ((unhide HD).shut 8 _ (hk9) rfl ⟨7,.data⟩ (by simp) rfl)) rfl ⟨6,.data⟩ (by simp) rfl)) rfl ⟨2,.data⟩ (by simp) rfl))) (by simp)
    | 9,hk9 => exact absurd (hl9.symm.trans (getD_true ((unhide HD).shut 6 _ (getD_true ((unhide HD).shut 7 _ (getD_true ((unhide HD).shut 8 _ (getD_true ((unhide HD).shut 9 _ (hk9) rfl ⟨8,.data⟩ (by simp) rfl)) rfl ⟨7,.data⟩ (by simp) rfl)) rfl ⟨6,.data⟩ (by simp) rfl)) rfl ⟨2,.data⟩ (by simp) rfl))) (by simp)
    | 10,hk9 => exact absurd (hl9.symm.trans (getD_true ((unhide HD).shut 6 _ (getD_true ((unhide HD).shut 7 _ (getD_true ((unhide HD).shut 8 _ (getD_true ((unhide HD).shut 10 _ (hk9) rfl ⟨8,.data⟩ (by simp) rfl)) rfl ⟨7,.data⟩ (by simp) rfl)) rfl ⟨6,.data⟩ (by simp) rfl)) rfl ⟨2,.data⟩ (by simp) rfl))) (by simp)
    | 11,hk9 => exact absurd (hl9.symm.trans (getD_true ((unhide HD).shut 11 _ (hk9) rfl ⟨2,.phase⟩ (by simp) rfl))) (by simp)
    | 12,hk9 => exact absurd (hl9.symm.trans (getD_true ((unhide HD).shut 12 _ (hk9) rfl ⟨2,.phase⟩ (by simp) rfl))) (by simp)
    | k9 + 13,_ => rfl
   ·intro x hx he; simp only [List.mem_cons,List.not_mem_nil,or_false] at hx; rcases hx with rfl | rfl | rfl
    ·exact h9.mono hM.bw
    ·exact absurd he (by simp)
    ·exact absurd he (by simp)
  ·cases ho9
   have r4 := hD.old 4 _ rfl rfl
   have hM0 := hM.st
   have Q_ := hM0.cellAt (b := w.heap.size) (cs := #[.int .i64 E,.int .i64 F]) (t := 23) (by simp)
   have c9_0 := Q_ 0 _ rfl
   have c9_1 := Q_ 1 _ rfl
   clear Q_
   clear hM0
   refine wpOp_step rfl fun K hK => ?_
   go_simp
   exact hK _ _ ⟨p9,fun _ _ => rfl,rfl,(hM.val rfl)⟩
  ·cases ho9
   have r2 := hD.old 2 _ rfl rfl
   refine wpOp_step rfl fun K hK => ?_
   go_simp
   exact hK _ _ ⟨p9,fun _ _ => rfl,rfl,(hM.val rfl)⟩
  ·cases ho9
   have r25 := hD.od hd9 3 25 _ rfl (by simp)
   have r26 := hD.od hd9 4 26 _ rfl (by simp)
   have g2 := hM.fx _ (List.mem_of_getElem? (i := 0) rfl) (Or.inl (getD_true (hd9 ⟨2,.chain⟩ (by simp) rfl)))
   simp only [] at g2
   have HD := hide hD
   refine wpOp_step rfl fun K hK => ?_
   go_simp
   go_wp2_with fail
   refine (unhide HO1 _).mono ?_
   rintro en w9 ⟨⟨a9,n9,c9,rfl,h9⟩,hb9⟩
   refine hK _ _ ⟨p9.set 5 ⟨a9,n9,c9⟩,?_,rfl,((hM.kept hs9 hb9).pick ⟨a9,n9,c9⟩ ?_)⟩
   ·intro k9 hk9
    clear hM hK
    match k9,hk9 with
    | 0,_ => rfl
    | 1,_ => rfl
    | 2,_ => rfl
    | 3,_ => rfl
    | 4,_ => rfl
    | 5,hk9 => exact absurd (hl9.symm.trans hk9) (by simp)
    | 6,hk9 => exact absurd (hl9.symm.trans (getD_true ((unhide HD).shut 6 _ (hk9) rfl ⟨5,.data⟩ (by simp) rfl))) (by simp)
    | 7,hk9 => exact absurd (hl9.symm.trans (getD_true ((unhide HD).shut 7 _ (hk9) rfl ⟨5,.chain⟩ (by simp) rfl))) (by simp)
    | 8,hk9 => exact absurd (hl9.symm.trans (getD_true ((unhide HD).shut 7 _ (getD_true ((unhide HD).shut 8 _ (hk9) rfl ⟨7,.data⟩ (by simp) rfl)) rfl ⟨5,.chain⟩ (by simp) rfl))) (by simp)
    | 9,hk9 => exact absurd (hl9.symm.trans (getD_true ((unhide HD).shut 7 _ (getD_true ((unhide HD).shut 8 _ (getD_true ((unhide HD).shut 9 _ (hk9) rfl ⟨8,.data⟩ (by simp) rfl)) rfl ⟨7,.data⟩ (by simp) rfl)) rfl ⟨5,.chain⟩ (by simp) rfl))) (by simp)
    | 10,hk9 => exact absurd (hl9.symm.trans (getD_true ((unhide HD).shut 7 _ (getD_true ((unhide HD).shut 8 _ (getD_true ((unhide HD).shut 10 _ (hk9) rfl ⟨8,.data⟩ (by simp) rfl)) rfl ⟨7,.data⟩ (by simp) rfl)) rfl ⟨5,.chain⟩ (by simp) rfl))) (by simp)
    | 11,hk9 => exact absurd (hl9.symm.trans (getD_true ((unhide HD).shut 11 _ (hk9) rfl ⟨5,.phase⟩ (by simp) rfl))) (by simp)
    | 12,hk9 => exact absurd (hl9.symm.trans (getD_true ((unhide HD).shut 12 _ (hk9) rfl ⟨5,.phase⟩ (by simp) rfl))) (by simp)
    | k9 + 13,_ => rfl
   ·intro x hx he; simp only [List.mem_cons,List.not_mem_nil,or_false] at hx; rcases hx with rfl | rfl | rfl
    ·exact absurd he (by simp)
    ·exact h9.mono hM.bw
    ·exact absurd he (by simp)
  ·cases ho9
   have r24 := hD.od hd9 2 24 _ rfl (by simp)
   have r27 := hD.od hd9 5 27 _ rfl (by simp)
   have g2 := hM.fx _ (List.mem_of_getElem? (i := 0) rfl) (Or.inl (getD_true (hd9 ⟨2,.data⟩ (by simp) rfl)))
   simp only [] at g2
   have g5 := hM.fx _ (List.mem_of_getElem? (i := 1) rfl) (Or.inl (getD_true (hd9 ⟨5,.data⟩ (by simp) rfl)))
   simp only [] at g5
   have HD := hide hD
   refine wpOp_step rfl fun K hK => ?_
   go_simp
   have hb9 := gr_alloc W9 (.cells #[.bool g0,.bool n0,.bool q0,.bool i0,.bool s0,.slice (p9 2).A (p9 2).N (p9 2).C,.int .i64 x0,.bool g1,.bool n1,.bool q1,.bool i1,.bool s1,.slice (p9 5).A (p9 5).N (p9 5).C,.int .i64 x1] 59)
   refine hK _ _ ⟨p9.set 6 ⟨none,W9.heap.size,0⟩,?_,rfl,((hM.kept hs9 hb9).pick ⟨none,W9.heap.size,0⟩ ?_)⟩
   ·intro k9 hk9
    clear hM hK
    match k9,hk9 with
    | 0,_ => rfl
    | 1,_ => rfl
    | 2,_ => rfl
    | 3,_ => rfl
    | 4,_ => rfl
    | 5,_ => rfl
    | 6,hk9 => exact absurd (hl9.symm.trans hk9) (by simp)
    | 7,hk9 => exact absurd (hl9.symm.trans (getD_true ((unhide HD).shut 7 _ (hk9) rfl ⟨6,.data⟩ (by simp) rfl))) (by simp)
    | 8,hk9 => exact absurd (hl9.symm.trans (getD_true ((unhide HD).shut 7 _ (getD_true ((unhide HD).shut 8 _ (hk9) rfl ⟨7,.data⟩ (by simp) rfl)) rfl ⟨6,.data⟩ (by simp) rfl))) (by simp)
    | 9,hk9 => exact absurd (hl9.symm.trans (getD_true ((unhide HD).shut 7 _ (getD_true ((unhide HD).shut 8 _ (getD_true ((unhide HD).shut 9 _ (hk9) rfl ⟨8,.data⟩ (by simp) rfl)) rfl ⟨7,.data⟩ (by simp) rfl)) rfl ⟨6,.data⟩ (by simp) rfl))) (by simp)
    | 10,hk9 => exact absurd (hl9.symm.trans (getD_true ((unhide HD).shut 7 _ (getD_true ((unhide HD).shut 8 _ (getD_true ((unhide HD).shut 10 _ (hk9) rfl ⟨8,.data⟩ (by simp) rfl)) rfl ⟨7,.data⟩ (by simp) rfl)) rfl ⟨6,.data⟩ (by simp) rfl))) (by simp)
    | 11,hk9 => exact absurd (hl9.symm.trans (getD_true ((unhide HD).shut 11 _ (hk9) rfl ⟨6,.phase⟩ (by simp) rfl))) (by simp)
    | 12,hk9 => exact absurd (hl9.symm.trans (getD_true ((unhide HD).shut 12 _ (hk9) rfl ⟨6,.phase⟩ (by simp) rfl))) (by simp)
    | k9 + 13,_ => rfl
   ·intro x hx he; simp only [List.mem_cons,List.not_mem_nil,or_false] at hx; rcases hx with rfl | rfl | rfl
    ·exact absurd he (by simp)
    ·exact absurd he (by simp)
    ·exact Nl2.made hM.bw rfl rfl rfl rfl
  ·cases ho9
   have r28 := hD.od hd9 6 28 _ rfl (by simp)
   have g2 := hM.fx _ (List.mem_of_getElem? (i := 0) rfl) (Or.inl (getD_true (hD.shut 6 _ (getD_true (hd9 ⟨6,.data⟩ (by simp) rfl)) rfl ⟨2,.data⟩ (by simp) rfl)))
   simp only [] at g2
   have g5 := hM.fx _ (List.mem_of_getElem? (i := 1) rfl) (Or.inl (getD_true (hd9 ⟨5,.chain⟩ (by simp) rfl)))
   simp only [] at g5
   have g6 := hM.fx _ (List.mem_of_getElem? (i := 2) rfl) (Or.inl (getD_true (hd9 ⟨6,.data⟩ (by simp) rfl)))
   simp only [] at g6
   refine wpOp_step rfl fun K hK => ?_
   go_simp
   go_wp2_with fail
   refine (unhide HN _ _ _ g6).mono ?_
   rintro en w9 ⟨rfl,hb9⟩
   exact hK _ _ ⟨p9,fun _ _ => rfl,rfl,((hM.kept hs9 hb9).val rfl)⟩
  ·cases ho9
   have r29 := hD.od hd9 7 29 _ rfl (by simp)
   refine wpOp_step rfl fun K hK => ?_
   go_simp
   exact hK _ _ ⟨p9,fun _ _ => rfl,rfl,(hM.val rfl)⟩
  ·cases ho9
   have r21 := hD.od hd9 8 21 _ rfl (by simp)
   refine wpOp_step rfl fun K hK => ?_
   go_simp
   exact hK _ _ ⟨p9,fun _ _ => rfl,rfl,(hM.val rfl)⟩
  ·cases ho9
   have r21 := hD.od hd9 8 21 _ rfl (by simp)
   refine wpOp_step rfl fun K hK => ?_
   go_simp
   exact hK _ _ ⟨p9,fun _ _ => rfl,rfl,(hM.val rfl)⟩
  ·cases ho9
   have r30 := hD.od hd9 9 30 _ rfl (by simp)
   refine wpOp_step rfl fun K hK => ?_
   go_simp
   exact hK _ _ ⟨p9,fun _ _ => rfl,rfl,(hM.val rfl)⟩
  ·cases ho9
   have r31 := hD.od hd9 10 31 _ rfl (by simp)
   refine wpOp_step rfl fun K hK => ?_
   go_simp
   exact hK _ _ ⟨p9,fun _ _ => rfl,rfl,(hM.val rfl)⟩
 ·intro p9 l9 W9 hn9 hl9 hM
  have fr4_2 := hM.fx _ (List.mem_of_getElem? (i := 0) rfl) (Or.inl (hl9 2 (by decide)))
  have fr4_5 := hM.fx _ (List.mem_of_getElem? (i := 1) rfl) (Or.inl (hl9 5 (by decide)))
  have fr4_6 := hM.fx _ (List.mem_of_getElem? (i := 2) rfl) (Or.inl (hl9 6 (by decide)))
  replace hM := hM.st
  clear hl9 hs9 h09 hn9
  generalize p9 2 = q2 at *
  obtain ⟨Ar4_2,Nr4_2,Cr4_2⟩ := q2
  simp only [] at fr4_2
  generalize p9 5 = q5 at *
  obtain ⟨Ar4_5,Nr4_5,Cr4_5⟩ := q5
  simp only [] at fr4_5
  generalize p9 6 = q6 at *
  obtain ⟨Ar4_6,Nr4_6,Cr4_6⟩ := q6
  simp only [] at fr4_6
  clear hS ya yb
  have hS := hM
  clear hM
  simp only [Puts.lay,List.setIfInBounds_toArray,List.set_cons_zero,List.set_cons_succ]
  obtain ⟨⟨yc,yd,-⟩,-⟩ := hS.cells
  clear fr4_2 fr4_5 fr4_6
  go_wp2_with fail
  refine (unhide HL _).mono ?_
  rintro e w2 ⟨rfl,hb2⟩
  replace hS := hS.kept hb2
  clear yc yd
  obtain ⟨⟨ye,yf,-⟩,-⟩ := hS.cells
  go_wp2
  go_ret2
  exact ⟨rfl,hS.fr⟩
theorem pick_ft (E F a b : Int) (H0 : Tel 15 #[.agg #[.int .i64 E,.int .i64 F],.int .u64 a] (.int .i64 0)) (H1 : Tel 15 #[.agg #[.int .i64 E,.int .i64 F],.int .u64 b] (.int .i64 0)) (g0 n0 q0 i0 s0 g1 n1 q1 i1 s1 : Bool) (m0 m1 : Nat) (x0 x1 : Int) (HO0 : Hid (OpR E F a g0 n0 q0 i0 s0 m0 x0)) (HO1 : Hid (OpR E F b g1 n1 q1 i1 s1 m1 x1)) (hr : (n0 || n1) = false) (HL : Hid (∀ W : World,Calls Tryz.prog 29 #[.agg #[.int .i64 E,.int .i64 F],.int .u64 a,.int .u64 b] W fun e w' => e = .returned (.bool true) ∧ Below W.heap.size W w')) (w : World)  :
  Calls Tryz.prog 18 #[.agg #[.int .i64 E,.int .i64 F],.int .u64 a,.int .u64 b,.bool false] w fun e w' => e = .returned (.tuple #[.int .u64 a,.int .i64 0]) ∧ Below w.heap.size w w' := by
 have HN : Hid (∀ (W : World) (base b : Nat),Nl2 base b n0 q0 n1 q1 W → Calls Tryz.prog 26 #[.slice (some ⟨b,0,none⟩) 2 2] W fun e w' => e = .returned (.tuple #[.bool false,.int .u8 (fl16 ((n0 && !q0) || (n1 && !q1)))]) ∧ Below W.heap.size W w') := hide (fun W base b h => by have := nans2_of W base b n0 q0 n1 q1 h; rw [hr] at this; exact this)
 obtain ⟨fl,hfl⟩ : ∃ fl,fl16 ((n0 && !q0) || (n1 && !q1)) = fl := ⟨_,rfl⟩
 rw [hfl] at HN
 clear hr hfl
 go_enter Tryz.func18,Tryz.ntmps18
 go_wp2_with fail
 refine (asked2_ok E F 0 _ a b H0 H1 (by decide) _ (by have := heap_alloc_new (w.alloc (.cells #[.int .i64 E,.int .i64 F] 23)) (.cells #[.int .u64 a,.int .u64 b] 24); simpa only [World.size_alloc] using this)).mono ?_
 rintro e w1 ⟨rfl,hb1⟩
 have hS : Fs w (w.alloc (.cells #[.int .i64 E,.int .i64 F] 23)) [⟨w.heap.size,#[.int .i64 E,.int .i64 F],23⟩] := Fs.one w _ _
 replace hS := ((hS.alloc #[.int .u64 a,.int .u64 b] 24).kept hb1).sub (fun x hx => List.mem_cons_of_mem _ hx)
 obtain ⟨⟨ya,yb,-⟩,-⟩ := hS.cells
 go_wp2_with fail
 have hS3s : w.heap.size ≤ w1.heap.size := hS.size
 have hs9 : ∀ x9 : Nat × (Pk → World → Prop),x9 ∈ ([(2,fun q W => Mine W w1.heap.size q.A q.N q.C m0),(5,fun q W => Mine W w1.heap.size q.A q.N q.C m1),(6,fun q W => Nl2 w1.heap.size q.N n0 q0 n1 q1 W)] : List (Nat × (Pk → World → Prop))) → ∀ q9 : Pk,St w1.heap.size (x9.2 q9) := by
  intro x hx q
  simp only [List.mem_cons,List.not_mem_nil,or_false] at hx
  rcases hx with rfl | rfl | rfl
  ·exact st_mine _ _ _ _ _
  ·exact st_mine _ _ _ _ _
  ·exact st_nl2 _ _ _ _ _ _
 have h09 : ∀ x9 : Nat × (Pk → World → Prop),x9 ∈ ([(2,fun q W => Mine W w1.heap.size q.A q.N q.C m0),(5,fun q W => Mine W w1.heap.size q.A q.N q.C m1),(6,fun q W => Nl2 w1.heap.size q.N n0 q0 n1 q1 W)] : List (Nat × (Pk → World → Prop))) → 13 ≤ x9.1 → x9.2 ⟨none,0,0⟩ w1 := by
  intro x hx hn9
  simp only [List.mem_cons,List.not_mem_nil,or_false] at hx
  rcases hx with rfl | rfl | rfl
  ·exact absurd hn9 (by simp)
  ·exact absurd hn9 (by simp)
  ·exact absurd hn9 (by simp)
 refine wp_region_any (by kernel_rfl) ?_
 refine wpAny_pick (fun p9 => [some (22,.agg #[.int .i64 E,.int .i64 F]),some (23,.int .u64 a),some (24,.agg #[.bool g0,.bool n0,.bool q0,.bool i0,.bool s0,.slice (p9 2).A (p9 2).N (p9 2).C,.int .i64 x0]),some (25,.agg #[.int .i64 E,.int .i64 F]),some (26,.int .u64 b),some (27,.agg #[.bool g1,.bool n1,.bool q1,.bool i1,.bool s1,.slice (p9 5).A (p9 5).N (p9 5).C,.int .i64 x1]),some (28,.slice (some ⟨(p9 6).N,0,none⟩) 2 2),some (29,.tuple #[.bool false,.int .u8 fl]),some (21,.tuple #[.bool false,.int .u8 fl]),some (30,.bool false),some (31,.int .u8 fl),some (11,.bool false),some (12,.int .u8 fl)])
  (fun p9 l9 W9 => Pm w w1.heap.size [(2,fun q W => Mine W w1.heap.size q.A q.N q.C m0),(5,fun q W => Mine W w1.heap.size q.A q.N q.C m1),(6,fun q W => Nl2 w1.heap.size q.N n0 q0 n1 q1 W)] p9 l9 W9 [⟨w.heap.size,#[.int .i64 E,.int .i64 F],23⟩]) _ _ (fun _ => rfl) (by kernel_rfl) (fun _ => rfl) (fun _ => rfl) ?_ ?_ (fun _ => ⟨none,0,0⟩) (Pm.start hS _ _ _ hs9 h09)
 ·intro p9 l9 t9 W9 i9 hD hi9 hl9 hM
  obtain ⟨o9,ho9,hd9⟩ := (mem_ready.1 hi9).2
  have hin9 : i9 < 13 := by
   by_cases h : i9 < 13
   ·exact h
   ·rw [Array.getElem?_eq_none (by rw [hD.len]; simp; omega)] at hl9; cases hl9
  have hcase : i9 = 0 ∨ i9 = 1 ∨ i9 = 2 ∨ i9 = 3 ∨ i9 = 4 ∨ i9 = 5 ∨ i9 = 6 ∨ i9 = 7 ∨ i9 = 8 ∨ i9 = 9 ∨ i9 = 10 ∨ i9 = 11 ∨ i9 = 12 := by omega
  clear hin9
  rcases hcase with rfl | rfl | rfl | rfl | rfl | rfl | rfl | rfl | rfl | rfl | rfl | rfl | rfl
  ·cases ho9
   have r4 := hD.old 4 _ rfl rfl
   have hM0 := hM.st
   have Q_ := hM0.cellAt (b := w.heap.size) (cs := #[.int .i64 E,.int .i64 F]) (t := 23) (by simp)
   have c9_0 := Q_ 0 _ rfl
   have c9_1 := Q_ 1 _ rfl
   clear Q_
   clear hM0
   refine wpOp_step rfl fun K hK => ?_
   go_simp
   exact hK _ _ ⟨p9,fun _ _ => rfl,rfl,(hM.val rfl)⟩
  ·cases ho9
   have r1 := hD.old 1 _ rfl rfl
   refine wpOp_step rfl fun K hK => ?_
   go_simp
   exact hK _ _ ⟨p9,fun _ _ => rfl,rfl,(hM.val rfl)⟩
  ·cases ho9
   have r22 := hD.od hd9 0 22 _ rfl (by simp)
   have r23 := hD.od hd9 1 23 _ rfl (by simp)
   have HD := hide hD
   refine wpOp_step rfl fun K hK => ?_
   go_simp
   go_wp2_with fail
   refine (unhide HO0 _).mono ?_
   rintro en w9 ⟨⟨a9,n9,c9,rfl,h9⟩,hb9⟩
   refine hK _ _ ⟨p9.set 2 ⟨a9,n9,c9⟩,?_,rfl,((hM.kept hs9 hb9).pick ⟨a9,n9,c9⟩ ?_)⟩
   ·intro k9 hk9
    clear hM hK
    match k9,hk9 with
    | 0,_ => rfl
    | 1,_ => rfl
    | 2,hk9 => exact absurd (hl9.symm.trans hk9) (by simp)
    | 3,_ => rfl
    | 4,_ => rfl
    | 5,hk9 => exact absurd (hl9.symm.trans (getD_true ((unhide HD).shut 5 _ (hk9) rfl ⟨2,.chain⟩ (by simp) rfl))) (by simp)
    | 6,hk9 => exact absurd (hl9.symm.trans (getD_true ((unhide HD).shut 6 _ (hk9) rfl ⟨2,.data⟩ (by simp) rfl))) (by simp)
    | 7,hk9 => exact absurd (hl9.symm.trans (getD_true ((unhide HD).shut 6 _ (getD_true ((unhide HD).shut 7 _ (hk9) rfl ⟨6,.data⟩ (by simp) rfl)) rfl ⟨2,.data⟩ (by simp) rfl))) (by simp)
    | 8,hk9 => exact absurd (hl9.symm.trans (getD_true ((unhide HD).shut 6 _ (getD_true ((unhide HD).shut 7 _ (getD_true ((unhide HD).shut 8 _ (hk9) rfl ⟨7,.data⟩ (by simp) rfl)) rfl ⟨6,.data⟩ (by simp) rfl)) rfl ⟨2,.data⟩ (by simp) rfl))) (by simp)
    | 9,hk9 => exact absurd (hl9.symm.trans (getD_true ((unhide HD).shut 6 _ (getD_true ((unhide HD).shut 7 _ (getD_true ((unhide HD).shut 8 _ (getD_true ((unhide HD).shut 9 _ (hk9) rfl ⟨8,.data⟩ (by simp) rfl)) rfl ⟨7,.data⟩ (by simp) rfl)) rfl ⟨6,.data⟩ (by simp) rfl)) rfl ⟨2,.data⟩ (by simp) rfl))) (by simp)
    | 10,hk9 => exact absurd (hl9.symm.trans (getD_true ((unhide HD).shut 6 _ (getD_true ((unhide HD).shut 7 _ (getD_true ((unhide HD).shut 8 _ (getD_true ((unhide HD).shut 10 _ (hk9) rfl ⟨8,.data⟩ (by simp) rfl)) rfl ⟨7,.data⟩ (by simp) rfl)) rfl ⟨6,.data⟩ (by simp) rfl)) rfl ⟨2,.data⟩ (by simp) rfl))) (by simp)
    | 11,hk9 => exact absurd (hl9.symm.trans (getD_true ((unhide HD).shut 11 _ (hk9) rfl ⟨2,.phase⟩ (by simp) rfl))) (by simp)
    | 12,hk9 => exact absurd (hl9.symm.trans (getD_true ((unhide HD).shut 12 _ (hk9) rfl ⟨2,.phase⟩ (by simp) rfl))) (by simp)
    | k9 + 13,_ => rfl
   ·intro x hx he; simp only [List.mem_cons,List.not_mem_nil,or_false] at hx; rcases hx with rfl | rfl | rfl
    ·exact h9.mono hM.bw
    ·exact absurd he (by simp)
    ·exact absurd he (by simp)
  ·cases ho9
   have r4 := hD.old 4 _ rfl rfl
   have hM0 := hM.st
   have Q_ := hM0.cellAt (b := w.heap.size) (cs := #[.int .i64 E,.int .i64 F]) (t := 23) (by simp)
   have c9_0 := Q_ 0 _ rfl
   have c9_1 := Q_ 1 _ rfl
   clear Q_
   clear hM0
   refine wpOp_step rfl fun K hK => ?_
   go_simp
   exact hK _ _ ⟨p9,fun _ _ => rfl,rfl,(hM.val rfl)⟩
  ·cases ho9
   have r2 := hD.old 2 _ rfl rfl
   refine wpOp_step rfl fun K hK => ?_
   go_simp
   exact hK _ _ ⟨p9,fun _ _ => rfl,rfl,(hM.val rfl)⟩
  ·cases ho9
   have r25 := hD.od hd9 3 25 _ rfl (by simp)
   have r26 := hD.od hd9 4 26 _ rfl (by simp)
   have g2 := hM.fx _ (List.mem_of_getElem? (i := 0) rfl) (Or.inl (getD_true (hd9 ⟨2,.chain⟩ (by simp) rfl)))
   simp only [] at g2
   have HD := hide hD
   refine wpOp_step rfl fun K hK => ?_
   go_simp
   go_wp2_with fail
   refine (unhide HO1 _).mono ?_
   rintro en w9 ⟨⟨a9,n9,c9,rfl,h9⟩,hb9⟩
   refine hK _ _ ⟨p9.set 5 ⟨a9,n9,c9⟩,?_,rfl,((hM.kept hs9 hb9).pick ⟨a9,n9,c9⟩ ?_)⟩
   ·intro k9 hk9
    clear hM hK
    match k9,hk9 with
    | 0,_ => rfl
    | 1,_ => rfl
    | 2,_ => rfl
    | 3,_ => rfl
    | 4,_ => rfl
    | 5,hk9 => exact absurd (hl9.symm.trans hk9) (by simp)
    | 6,hk9 => exact absurd (hl9.symm.trans (getD_true ((unhide HD).shut 6 _ (hk9) rfl ⟨5,.data⟩ (by simp) rfl))) (by simp)
    | 7,hk9 => exact absurd (hl9.symm.trans (getD_true ((unhide HD).shut 7 _ (hk9) rfl ⟨5,.chain⟩ (by simp) rfl))) (by simp)
    | 8,hk9 => exact absurd (hl9.symm.trans (getD_true ((unhide HD).shut 7 _ (getD_true ((unhide HD).shut 8 _ (hk9) rfl ⟨7,.data⟩ (by simp) rfl)) rfl ⟨5,.chain⟩ (by simp) rfl))) (by simp)
    | 9,hk9 => exact absurd (hl9.symm.trans (getD_true ((unhide HD).shut 7 _ (getD_true ((unhide HD).shut 8 _ (getD_true ((unhide HD).shut 9 _ (hk9) rfl ⟨8,.data⟩ (by simp) rfl)) rfl ⟨7,.data⟩ (by simp) rfl)) rfl ⟨5,.chain⟩ (by simp) rfl))) (by simp)
    | 10,hk9 => exact absurd (hl9.symm.trans (getD_true ((unhide HD).shut 7 _ (getD_true ((unhide HD).shut 8 _ (getD_true ((unhide HD).shut 10 _ (hk9) rfl ⟨8,.data⟩ (by simp) rfl)) rfl ⟨7,.data⟩ (by simp) rfl)) rfl ⟨5,.chain⟩ (by simp) rfl))) (by simp)
    | 11,hk9 => exact absurd (hl9.symm.trans (getD_true ((unhide HD).shut 11 _ (hk9) rfl ⟨5,.phase⟩ (by simp) rfl))) (by simp)
    | 12,hk9 => exact absurd (hl9.symm.trans (getD_true ((unhide HD).shut 12 _ (hk9) rfl ⟨5,.phase⟩ (by simp) rfl))) (by simp)
    | k9 + 13,_ => rfl
   ·intro x hx he; simp only [List.mem_cons,List.not_mem_nil,or_false] at hx; rcases hx with rfl | rfl | rfl
    ·exact absurd he (by simp)
    ·exact h9.mono hM.bw
    ·exact absurd he (by simp)
  ·cases ho9
   have r24 := hD.od hd9 2 24 _ rfl (by simp)
   have r27 := hD.od hd9 5 27 _ rfl (by simp)
   have g2 := hM.fx _ (List.mem_of_getElem? (i := 0) rfl) (Or.inl (getD_true (hd9 ⟨2,.data⟩ (by simp) rfl)))
   simp only [] at g2
   have g5 := hM.fx _ (List.mem_of_getElem? (i := 1) rfl) (Or.inl (getD_true (hd9 ⟨5,.data⟩ (by simp) rfl)))
   simp only [] at g5
   have HD := hide hD
   refine wpOp_step rfl fun K hK => ?_
   go_simp
   have hb9 := gr_alloc W9 (.cells #[.bool g0,.bool n0,.bool q0,.bool i0,.bool s0,.slice (p9 2).A (p9 2).N (p9 2).C,.int .i64 x0,.bool g1,.bool n1,.bool q1,.bool i1,.bool s1,.slice (p9 5).A (p9 5).N (p9 5).C,.int .i64 x1] 59)
   refine hK _ _ ⟨p9.set 6 ⟨none,W9.heap.size,0⟩,?_,rfl,((hM.kept hs9 hb9).pick ⟨none,W9.heap.size,0⟩ ?_)⟩
   ·intro k9 hk9
    clear hM hK
    match k9,hk9 with
    | 0,_ => rfl
    | 1,_ => rfl
    | 2,_ => rfl
    | 3,_ => rfl
    | 4,_ => rfl
    | 5,_ => rfl
    | 6,hk9 => exact absurd (hl9.symm.trans hk9) (by simp)
    | 7,hk9 => exact absurd (hl9.symm.trans (getD_true ((unhide HD).shut 7 _ (hk9) rfl ⟨6,.data⟩ (by simp) rfl))) (by simp)
    | 8,hk9 => exact absurd (hl9.symm.trans (getD_true ((unhide HD).shut 7 _ (getD_true ((unhide HD).shut 8 _ (hk9) rfl ⟨7,.data⟩ (by simp) rfl)) rfl ⟨6,.data⟩ (by simp) rfl))) (by simp)
    | 9,hk9 => exact absurd (hl9.symm.trans (getD_true ((unhide HD).shut 7 _ (getD_true ((unhide HD).shut 8 _ (getD_true ((unhide HD).shut 9 _ (hk9) rfl ⟨8,.data⟩ (by simp) rfl)) rfl ⟨7,.data⟩ (by simp) rfl)) rfl ⟨6,.data⟩ (by simp) rfl))) (by simp)
    | 10,hk9 => exact absurd (hl9.symm.trans (getD_true ((unhide HD).shut 7 _ (getD_true ((unhide HD).shut 8 _ (getD_true ((unhide HD).shut 10 _ (hk9) rfl ⟨8,.data⟩ (by simp) rfl)) rfl ⟨7,.data⟩ (by simp) rfl)) rfl ⟨6,.data⟩ (by simp) rfl))) (by simp)
    | 11,hk9 => exact absurd (hl9.symm.trans (getD_true ((unhide HD).shut 11 _ (hk9) rfl ⟨6,.phase⟩ (by simp) rfl))) (by simp)
    | 12,hk9 => exact absurd (hl9.symm.trans (getD_true ((unhide HD).shut 12 _ (hk9) rfl ⟨6,.phase⟩ (by simp) rfl))) (by simp)
    | k9 + 13,_ => rfl
   ·intro x hx he; simp only [List.mem_cons,List.not_mem_nil,or_false] at hx; rcases hx with rfl | rfl | rfl
    ·exact absurd he (by simp)
    ·exact absurd he (by simp)
    ·exact Nl2.made hM.bw rfl rfl rfl rfl
  ·cases ho9
   have r28 := hD.od hd9 6 28 _ rfl (by simp)
   have g2 := hM.fx _ (List.mem_of_getElem? (i := 0) rfl) (Or.inl (getD_true (hD.shut 6 _ (getD_true (hd9 ⟨6,.data⟩ (by simp) rfl)) rfl ⟨2,.data⟩ (by simp) rfl)))
   simp only [] at g2
   have g5 := hM.fx _ (List.mem_of_getElem? (i := 1) rfl) (Or.inl (getD_true (hd9 ⟨5,.chain⟩ (by simp) rfl)))
   simp only [] at g5
   have g6 := hM.fx _ (List.mem_of_getElem? (i := 2) rfl) (Or.inl (getD_true (hd9 ⟨6,.data⟩ (by simp) rfl)))
   simp only [] at g6
   refine wpOp_step rfl fun K hK => ?_
   go_simp
   go_wp2_with fail
   refine (unhide HN _ _ _ g6).mono ?_
   rintro en w9 ⟨rfl,hb9⟩
   exact hK _ _ ⟨p9,fun _ _ => rfl,rfl,((hM.kept hs9 hb9).val rfl)⟩
  ·cases ho9
   have r29 := hD.od hd9 7 29 _ rfl (by simp)
   refine wpOp_step rfl fun K hK => ?_
   go_simp
   exact hK _ _ ⟨p9,fun _ _ => rfl,rfl,(hM.val rfl)⟩
  ·cases ho9
   have r21 := hD.od hd9 8 21 _ rfl (by simp)
   refine wpOp_step rfl fun K hK => ?_
   go_simp
   exact hK _ _ ⟨p9,fun _ _ => rfl,rfl,(hM.val rfl)⟩
  ·cases ho9
   have r21 := hD.od hd9 8 21 _ rfl (by simp)
   refine wpOp_step rfl fun K hK => ?_
   go_simp
   exact hK _ _ ⟨p9,fun _ _ => rfl,rfl,(hM.val rfl)⟩
  ·cases ho9
   have r30 := hD.od hd9 9 30 _ rfl (by simp)
   refine wpOp_step rfl fun K hK => ?_
   go_simp
   exact hK _ _ ⟨p9,fun _ _ => rfl,rfl,(hM.val rfl)⟩
  ·cases ho9
   have r31 := hD.od hd9 10 31 _ rfl (by simp)
   refine wpOp_step rfl fun K hK => ?_
   go_simp
   exact hK _ _ ⟨p9,fun _ _ => rfl,rfl,(hM.val rfl)⟩
 ·intro p9 l9 W9 hn9 hl9 hM
  have fr4_2 := hM.fx _ (List.mem_of_getElem? (i := 0) rfl) (Or.inl (hl9 2 (by decide)))
  have fr4_5 := hM.fx _ (List.mem_of_getElem? (i := 1) rfl) (Or.inl (hl9 5 (by decide)))
  have fr4_6 := hM.fx _ (List.mem_of_getElem? (i := 2) rfl) (Or.inl (hl9 6 (by decide)))
  replace hM := hM.st
  clear hl9 hs9 h09 hn9
  generalize p9 2 = q2 at *
  obtain ⟨Ar4_2,Nr4_2,Cr4_2⟩ := q2
  simp only [] at fr4_2
  generalize p9 5 = q5 at *
  obtain ⟨Ar4_5,Nr4_5,Cr4_5⟩ := q5
  simp only [] at fr4_5
  generalize p9 6 = q6 at *
  obtain ⟨Ar4_6,Nr4_6,Cr4_6⟩ := q6
  simp only [] at fr4_6
  clear hS ya yb
  have hS := hM
  clear hM
  simp only [Puts.lay,List.setIfInBounds_toArray,List.set_cons_zero,List.set_cons_succ]
  obtain ⟨⟨yc,yd,-⟩,-⟩ := hS.cells
  clear fr4_2 fr4_5 fr4_6
  go_wp2_with fail
  refine (unhide HL _).mono ?_
  rintro e w2 ⟨rfl,hb2⟩
  replace hS := hS.kept hb2
  clear yc yd
  obtain ⟨⟨ye,yf,-⟩,-⟩ := hS.cells
  go_wp2
  go_ret2
  exact ⟨rfl,hS.fr⟩
theorem pick_tf (E F a b : Int) (H0 : Tel 15 #[.agg #[.int .i64 E,.int .i64 F],.int .u64 a] (.int .i64 0)) (H1 : Tel 15 #[.agg #[.int .i64 E,.int .i64 F],.int .u64 b] (.int .i64 0)) (g0 n0 q0 i0 s0 g1 n1 q1 i1 s1 : Bool) (m0 m1 : Nat) (x0 x1 : Int) (HO0 : Hid (OpR E F a g0 n0 q0 i0 s0 m0 x0)) (HO1 : Hid (OpR E F b g1 n1 q1 i1 s1 m1 x1)) (hr : (n0 || n1) = false) (HL : Hid (∀ W : World,Calls Tryz.prog 29 #[.agg #[.int .i64 E,.int .i64 F],.int .u64 a,.int .u64 b] W fun e w' => e = .returned (.bool false) ∧ Below W.heap.size W w')) (w : World)  :
  Calls Tryz.prog 18 #[.agg #[.int .i64 E,.int .i64 F],.int .u64 a,.int .u64 b,.bool true] w fun e w' => e = .returned (.tuple #[.int .u64 a,.int .i64 0]) ∧ Below w.heap.size w w' := by
 have HN : Hid (∀ (W : World) (base b : Nat),Nl2 base b n0 q0 n1 q1 W → Calls Tryz.prog 26 #[.slice (some ⟨b,0,none⟩) 2 2] W fun e w' => e = .returned (.tuple #[.bool false,.int .u8 (fl16 ((n0 && !q0) || (n1 && !q1)))]) ∧ Below W.heap.size W w') := hide (fun W base b h => by have := nans2_of W base b n0 q0 n1 q1 h; rw [hr] at this; exact this)
 obtain ⟨fl,hfl⟩ : ∃ fl,fl16 ((n0 && !q0) || (n1 && !q1)) = fl := ⟨_,rfl⟩
 rw [hfl] at HN
 clear hr hfl
 go_enter Tryz.func18,Tryz.ntmps18
 go_wp2_with fail
 refine (asked2_ok E F 0 _ a b H0 H1 (by decide) _ (by have := heap_alloc_new (w.alloc (.cells #[.int .i64 E,.int .i64 F] 23)) (.cells #[.int .u64 a,.int .u64 b] 24); simpa only [World.size_alloc] using this)).mono ?_
 rintro e w1 ⟨rfl,hb1⟩
 have hS : Fs w (w.alloc (.cells #[.int .i64 E,.int .i64 F] 23)) [⟨w.heap.size,#[.int .i64 E,.int .i64 F],23⟩] := Fs.one w _ _
 replace hS := ((hS.alloc #[.int .u64 a,.int .u64 b] 24).kept hb1).sub (fun x hx => List.mem_cons_of_mem _ hx)
 obtain ⟨⟨ya,yb,-⟩,-⟩ := hS.cells
 go_wp2_with fail
 have hS3s : w.heap.size ≤ w1.heap.size := hS.size
 have hs9 : ∀ x9 : Nat × (Pk → World → Prop),x9 ∈ ([(2,fun q W => Mine W w1.heap.size q.A q.N q.C m0),(5,fun q W => Mine W w1.heap.size q.A q.N q.C m1),(6,fun q W => Nl2 w1.heap.size q.N n0 q0 n1 q1 W)] : List (Nat × (Pk → World → Prop))) → ∀ q9 : Pk,St w1.heap.size (x9.2 q9) := by
  intro x hx q
  simp only [List.mem_cons,List.not_mem_nil,or_false] at hx
  rcases hx with rfl | rfl | rfl
  ·exact st_mine _ _ _ _ _
  ·exact st_mine _ _ _ _ _
  ·exact st_nl2 _ _ _ _ _ _
 have h09 : ∀ x9 : Nat × (Pk → World → Prop),x9 ∈ ([(2,fun q W => Mine W w1.heap.size q.A q.N q.C m0),(5,fun q W => Mine W w1.heap.size q.A q.N q.C m1),(6,fun q W => Nl2 w1.heap.size q.N n0 q0 n1 q1 W)] : List (Nat × (Pk → World → Prop))) → 13 ≤ x9.1 → x9.2 ⟨none,0,0⟩ w1 := by
  intro x hx hn9
  simp only [List.mem_cons,List.not_mem_nil,or_false] at hx
  rcases hx with rfl | rfl | rfl
  ·exact absurd hn9 (by simp)
  ·exact absurd hn9 (by simp)
  ·exact absurd hn9 (by simp)
 refine wp_region_any (by kernel_rfl) ?_
 refine wpAny_pick (fun p9 => [some (22,.agg #[.int .i64 E,.int .i64 F]),some (23,.int .u64 a),some (24,.agg #[.bool g0,.bool n0,.bool q0,.bool i0,.bool s0,.slice (p9 2).A (p9 2).N (p9 2).C,.int .i64 x0]),some (25,.agg #[.int .i64 E,.int .i64 F]),some (26,.int .u64 b),some (27,.agg #[.bool g1,.bool n1,.bool q1,.bool i1,.bool s1,.slice (p9 5).A (p9 5).N (p9 5).C,.int .i64 x1]),some (28,.slice (some ⟨(p9 6).N,0,none⟩) 2 2),some (29,.tuple #[.bool false,.int .u8 fl]),some (21,.tuple #[.bool false,.int .u8 fl]),some (30,.bool false),some (31,.int .u8 fl),some (11,.bool false),some (12,.int .u8 fl)])
  (fun p9 l9 W9 => Pm w w1.heap.size [(2,fun q W => Mine W w1.heap.size q.A q.N q.C m0),(5,fun q W => Mine W w1.heap.size q.A q.N q.C m1),(6,fun q W => Nl2 w1.heap.size q.N n0 q0 n1 q1 W)] p9 l9 W9 [⟨w.heap.size,#[.int .i64 E,.int .i64 F],23⟩]) _ _ (fun _ => rfl) (by kernel_rfl) (fun _ => rfl) (fun _ => rfl) ?_ ?_ (fun _ => ⟨none,0,0⟩) (Pm.start hS _ _ _ hs9 h09)
 ·intro p9 l9 t9 W9 i9 hD hi9 hl9 hM
  obtain ⟨o9,ho9,hd9⟩ := (mem_ready.1 hi9).2
  have hin9 : i9 < 13 := by
   by_cases h : i9 < 13
   ·exact h
   ·rw [Array.getElem?_eq_none (by rw [hD.len]; simp; omega)] at hl9; cases hl9
  have hcase : i9 = 0 ∨ i9 = 1 ∨ i9 = 2 ∨ i9 = 3 ∨ i9 = 4 ∨ i9 = 5 ∨ i9 = 6 ∨ i9 = 7 ∨ i9 = 8 ∨ i9 = 9 ∨ i9 = 10 ∨ i9 = 11 ∨ i9 = 12 := by omega
  clear hin9
  rcases hcase with rfl | rfl | rfl | rfl | rfl | rfl | rfl | rfl | rfl | rfl | rfl | rfl | rfl
  ·cases ho9
   have r4 := hD.old 4 _ rfl rfl
   have hM0 := hM.st
   have Q_ := hM0.cellAt (b := w.heap.size) (cs := #[.int .i64 E,.int .i64 F]) (t := 23) (by simp)
   have c9_0 := Q_ 0 _ rfl
   have c9_1 := Q_ 1 _ rfl
   clear Q_
   clear hM0
   refine wpOp_step rfl fun K hK => ?_
   go_simp
   exact hK _ _ ⟨p9,fun _ _ => rfl,rfl,(hM.val rfl)⟩
  ·cases ho9
   have r1 := hD.old 1 _ rfl rfl
   refine wpOp_step rfl fun K hK => ?_
   go_simp
   exact hK _ _ ⟨p9,fun _ _ => rfl,rfl,(hM.val rfl)⟩
  ·cases ho9
   have r22 := hD.od hd9 0 22 _ rfl (by simp)
   have r23 := hD.od hd9 1 23 _ rfl (by simp)
   have HD := hide hD
   refine wpOp_step rfl fun K hK => ?_
   go_simp
   go_wp2_with fail
   refine (unhide HO0 _).mono ?_
   rintro en w9 ⟨⟨a9,n9,c9,rfl,h9⟩,hb9⟩
   refine hK _ _ ⟨p9.set 2 ⟨a9,n9,c9⟩,?_,rfl,((hM.kept hs9 hb9).pick ⟨a9,n9,c9⟩ ?_)⟩
   ·intro k9 hk9
    clear hM hK
    match k9,hk9 with
    | 0,_ => rfl
    | 1,_ => rfl
    | 2,hk9 => exact absurd (hl9.symm.trans hk9) (by simp)
    | 3,_ => rfl
    | 4,_ => rfl
    | 5,hk9 => exact absurd (hl9.symm.trans (getD_true ((unhide HD).shut 5 _ (hk9) rfl ⟨2,.chain⟩ (by simp) rfl))) (by simp)
    | 6,hk9 => exact absurd (hl9.symm.trans (getD_true ((unhide HD).shut 6 _ (hk9) rfl ⟨2,.data⟩ (by simp) rfl))) (by simp)
    | 7,hk9 => exact absurd (hl9.symm.trans (getD_true ((unhide HD).shut 6 _ (getD_true ((unhide HD).shut 7 _ (hk9) rfl ⟨6,.data⟩ (by simp) rfl)) rfl ⟨2,.data⟩ (by simp) rfl))) (by simp)
    | 8,hk9 => exact absurd (hl9.symm.trans (getD_true ((unhide HD).shut 6 _ (getD_true ((unhide HD).shut 7 _ (getD_true ((unhide HD).shut 8 _ (hk9) rfl ⟨7,.data⟩ (by simp) rfl)) rfl ⟨6,.data⟩ (by simp) rfl)) rfl ⟨2,.data⟩ (by simp) rfl))) (by simp)
    | 9,hk9 => exact absurd (hl9.symm.trans (getD_true ((unhide HD).shut 6 _ (getD_true ((unhide HD).shut 7 _ (getD_true ((unhide HD).shut 8 _ (getD_true ((unhide HD).shut 9 _ (hk9) rfl ⟨8,.data⟩ (by simp) rfl)) rfl ⟨7,.data⟩ (by simp) rfl)) rfl ⟨6,.data⟩ (by simp) rfl)) rfl ⟨2,.data⟩ (by simp) rfl))) (by simp)
    | 10,hk9 => exact absurd (hl9.symm.trans (getD_true ((unhide HD).shut 6 _ (getD_true ((unhide HD).shut 7 _ (getD_true ((unhide HD).shut 8 _ (getD_true ((unhide HD).shut 10 _ (hk9) rfl ⟨8,.data⟩ (by simp) rfl)) rfl ⟨7,.data⟩ (by simp) rfl)) rfl ⟨6,.data⟩ (by simp) rfl)) rfl ⟨2,.data⟩ (by simp) rfl))) (by simp)
    | 11,hk9 => exact absurd (hl9.symm.trans (getD_true ((unhide HD).shut 11 _ (hk9) rfl ⟨2,.phase⟩ (by simp) rfl))) (by simp)
    | 12,hk9 => exact absurd (hl9.symm.trans (getD_true ((unhide HD).shut 12 _ (hk9) rfl ⟨2,.phase⟩ (by simp) rfl))) (by simp)
    | k9 + 13,_ => rfl
   ·intro x hx he; simp only [List.mem_cons,List.not_mem_nil,or_false] at hx; rcases hx with rfl | rfl | rfl
    ·exact h9.mono hM.bw
    ·exact absurd he (by simp)
    ·exact absurd he (by simp)
  ·cases ho9
   have r4 := hD.old 4 _ rfl rfl
   have hM0 := hM.st
   have Q_ := hM0.cellAt (b := w.heap.size) (cs := #[.int .i64 E,.int .i64 F]) (t := 23) (by simp)
   have c9_0 := Q_ 0 _ rfl
   have c9_1 := Q_ 1 _ rfl
   clear Q_
   clear hM0
   refine wpOp_step rfl fun K hK => ?_
   go_simp
   exact hK _ _ ⟨p9,fun _ _ => rfl,rfl,(hM.val rfl)⟩
  ·cases ho9
   have r2 := hD.old 2 _ rfl rfl
   refine wpOp_step rfl fun K hK => ?_
   go_simp
   exact hK _ _ ⟨p9,fun _ _ => rfl,rfl,(hM.val rfl)⟩
  ·cases ho9
   have r25 := hD.od hd9 3 25 _ rfl (by simp)
   have r26 := hD.od hd9 4 26 _ rfl (by simp)
   have g2 := hM.fx _ (List.mem_of_getElem? (i := 0) rfl) (Or.inl (getD_true (hd9 ⟨2,.chain⟩ (by simp) rfl)))
   simp only [] at g2
   have HD := hide hD
   refine wpOp_step rfl fun K hK => ?_
   go_simp
   go_wp2_with fail
   refine (unhide HO1 _).mono ?_
   rintro en w9 ⟨⟨a9,n9,c9,rfl,h9⟩,hb9⟩
   refine hK _ _ ⟨p9.set 5 ⟨a9,n9,c9⟩,?_,rfl,((hM.kept hs9 hb9).pick ⟨a9,n9,c9⟩ ?_)⟩
   ·intro k9 hk9
    clear hM hK
    match k9,hk9 with
    | 0,_ => rfl
    | 1,_ => rfl
    | 2,_ => rfl
    | 3,_ => rfl
    | 4,_ => rfl
    | 5,hk9 => exact absurd (hl9.symm.trans hk9) (by simp)
    | 6,hk9 => exact absurd (hl9.symm.trans (getD_true ((unhide HD).shut 6 _ (hk9) rfl ⟨5,.data⟩ (by simp) rfl))) (by simp)
    | 7,hk9 => exact absurd (hl9.symm.trans (getD_true ((unhide HD).shut 7 _ (hk9) rfl ⟨5,.chain⟩ (by simp) rfl))) (by simp)
    | 8,hk9 => exact absurd (hl9.symm.trans (getD_true ((unhide HD).shut 7 _ (getD_true ((unhide HD).shut 8 _ (hk9) rfl ⟨7,.data⟩ (by simp) rfl)) rfl ⟨5,.chain⟩ (by simp) rfl))) (by simp)
    | 9,hk9 => exact absurd (hl9.symm.trans (getD_true ((unhide HD).shut 7 _ (getD_true ((unhide HD).shut 8 _ (getD_true ((unhide HD).shut 9 _ (hk9) rfl ⟨8,.data⟩ (by simp) rfl)) rfl ⟨7,.data⟩ (by simp) rfl)) rfl ⟨5,.chain⟩ (by simp) rfl))) (by simp)
    | 10,hk9 => exact absurd (hl9.symm.trans (getD_true ((unhide HD).shut 7 _ (getD_true ((unhide HD).shut 8 _ (getD_true ((unhide HD).shut 10 _ (hk9) rfl ⟨8,.data⟩ (by simp) rfl)) rfl ⟨7,.data⟩ (by simp) rfl)) rfl ⟨5,.chain⟩ (by simp) rfl))) (by simp)
    | 11,hk9 => exact absurd (hl9.symm.trans (getD_true ((unhide HD).shut 11 _ (hk9) rfl ⟨5,.phase⟩ (by simp) rfl))) (by simp)
    | 12,hk9 => exact absurd (hl9.symm.trans (getD_true ((unhide HD).shut 12 _ (hk9) rfl ⟨5,.phase⟩ (by simp) rfl))) (by simp)
    | k9 + 13,_ => rfl
   ·intro x hx he; simp only [List.mem_cons,List.not_mem_nil,or_false] at hx; rcases hx with rfl | rfl | rfl
    ·exact absurd he (by simp)
    ·exact h9.mono hM.bw
    ·exact absurd he (by simp)
  ·cases ho9
   have r24 := hD.od hd9 2 24 _ rfl (by simp)
   have r27 := hD.od hd9 5 27 _ rfl (by simp)
   have g2 := hM.fx _ (List.mem_of_getElem? (i := 0) rfl) (Or.inl (getD_true (hd9 ⟨2,.data⟩ (by simp) rfl)))
   simp only [] at g2
   have g5 := hM.fx _ (List.mem_of_getElem? (i := 1) rfl) (Or.inl (getD_true (hd9 ⟨5,.data⟩ (by simp) rfl)))
   simp only [] at g5
   have HD := hide hD
   refine wpOp_step rfl fun K hK => ?_
   go_simp
   have hb9 := gr_alloc W9 (.cells #[.bool g0,.bool n0,.bool q0,.bool i0,.bool s0,.slice (p9 2).A (p9 2).N (p9 2).C,.int .i64 x0,.bool g1,.bool n1,.bool q1,.bool i1,.bool s1,.slice (p9 5).A (p9 5).N (p9 5).C,.int .i64 x1] 59)
   refine hK _ _ ⟨p9.set 6 ⟨none,W9.heap.size,0⟩,?_,rfl,((hM.kept hs9 hb9).pick ⟨none,W9.heap.size,0⟩ ?_)⟩
   ·intro k9 hk9
    clear hM hK
    match k9,hk9 with
    | 0,_ => rfl
    | 1,_ => rfl
    | 2,_ => rfl
    | 3,_ => rfl
    | 4,_ => rfl
    | 5,_ => rfl
    | 6,hk9 => exact absurd (hl9.symm.trans hk9) (by simp)
    | 7,hk9 => exact absurd (hl9.symm.trans (getD_true ((unhide HD).shut 7 _ (hk9) rfl ⟨6,.data⟩ (by simp) rfl))) (by simp)
    | 8,hk9 => exact absurd (hl9.symm.trans (getD_true ((unhide HD).shut 7 _ (getD_true ((unhide HD).shut 8 _ (hk9) rfl ⟨7,.data⟩ (by simp) rfl)) rfl ⟨6,.data⟩ (by simp) rfl))) (by simp)
    | 9,hk9 => exact absurd (hl9.symm.trans (getD_true ((unhide HD).shut 7 _ (getD_true ((unhide HD).shut 8 _ (getD_true ((unhide HD).shut 9 _ (hk9) rfl ⟨8,.data⟩ (by simp) rfl)) rfl ⟨7,.data⟩ (by simp) rfl)) rfl ⟨6,.data⟩ (by simp) rfl))) (by simp)
    | 10,hk9 => exact absurd (hl9.symm.trans (getD_true ((unhide HD).shut 7 _ (getD_true ((unhide HD).shut 8 _ (getD_true ((unhide HD).shut 10 _ (hk9) rfl ⟨8,.data⟩ (by simp) rfl)) rfl ⟨7,.data⟩ (by simp) rfl)) rfl ⟨6,.data⟩ (by simp) rfl))) (by simp)
    | 11,hk9 => exact absurd (hl9.symm.trans (getD_true ((unhide HD).shut 11 _ (hk9) rfl ⟨6,.phase⟩ (by simp) rfl))) (by simp)
    | 12,hk9 => exact absurd (hl9.symm.trans (getD_true ((unhide HD).shut 12 _ (hk9) rfl ⟨6,.phase⟩ (by simp) rfl))) (by simp)
    | k9 + 13,_ => rfl
   ·intro x hx he; simp only [List.mem_cons,List.not_mem_nil,or_false] at hx; rcases hx with rfl | rfl | rfl
    ·exact absurd he (by simp)
    ·exact absurd he (by simp)
    ·exact Nl2.made hM.bw rfl rfl rfl rfl
  ·cases ho9
   have r28 := hD.od hd9 6 28 _ rfl (by simp)
   have g2 := hM.fx _ (List.mem_of_getElem? (i := 0) rfl) (Or.inl (getD_true (hD.shut 6 _ (getD_true (hd9 ⟨6,.data⟩ (by simp) rfl)) rfl ⟨2,.data⟩ (by simp) rfl)))
   simp only [] at g2
   have g5 := hM.fx _ (List.mem_of_getElem? (i := 1) rfl) (Or.inl (getD_true (hd9 ⟨5,.chain⟩ (by simp) rfl)))
   simp only [] at g5
   have g6 := hM.fx _ (List.mem_of_getElem? (i := 2) rfl) (Or.inl (getD_true (hd9 ⟨6,.data⟩ (by simp) rfl)))
   simp only [] at g6
   refine wpOp_step rfl fun K hK => ?_
   go_simp
   go_wp2_with fail
   refine (unhide HN _ _ _ g6).mono ?_
   rintro en w9 ⟨rfl,hb9⟩
   exact hK _ _ ⟨p9,fun _ _ => rfl,rfl,((hM.kept hs9 hb9).val rfl)⟩
  ·cases ho9
   have r29 := hD.od hd9 7 29 _ rfl (by simp)
   refine wpOp_step rfl fun K hK => ?_
   go_simp
   exact hK _ _ ⟨p9,fun _ _ => rfl,rfl,(hM.val rfl)⟩
  ·cases ho9
   have r21 := hD.od hd9 8 21 _ rfl (by simp)
   refine wpOp_step rfl fun K hK => ?_
   go_simp
   exact hK _ _ ⟨p9,fun _ _ => rfl,rfl,(hM.val rfl)⟩
  ·cases ho9
   have r21 := hD.od hd9 8 21 _ rfl (by simp)
   refine wpOp_step rfl fun K hK => ?_
   go_simp
   exact hK _ _ ⟨p9,fun _ _ => rfl,rfl,(hM.val rfl)⟩
  ·cases ho9
   have r30 := hD.od hd9 9 30 _ rfl (by simp)
   refine wpOp_step rfl fun K hK => ?_
   go_simp
   exact hK _ _ ⟨p9,fun _ _ => rfl,rfl,(hM.val rfl)⟩
  ·cases ho9
   have r31 := hD.od hd9 10 31 _ rfl (by simp)
   refine wpOp_step rfl fun K hK => ?_
   go_simp
   exact hK _ _ ⟨p9,fun _ _ => rfl,rfl,(hM.val rfl)⟩
 ·intro p9 l9 W9 hn9 hl9 hM
  have fr4_2 := hM.fx _ (List.mem_of_getElem? (i := 0) rfl) (Or.inl (hl9 2 (by decide)))
  have fr4_5 := hM.fx _ (List.mem_of_getElem? (i := 1) rfl) (Or.inl (hl9 5 (by decide)))
  have fr4_6 := hM.fx _ (List.mem_of_getElem? (i := 2) rfl) (Or.inl (hl9 6 (by decide)))
  replace hM := hM.st
  clear hl9 hs9 h09 hn9
  generalize p9 2 = q2 at *
  obtain ⟨Ar4_2,Nr4_2,Cr4_2⟩ := q2
  simp only [] at fr4_2
  generalize p9 5 = q5 at *
  obtain ⟨Ar4_5,Nr4_5,Cr4_5⟩ := q5
  simp only [] at fr4_5
  generalize p9 6 = q6 at *
  obtain ⟨Ar4_6,Nr4_6,Cr4_6⟩ := q6
  simp only [] at fr4_6
  clear hS ya yb
  have hS := hM
  clear hM
  simp only [Puts.lay,List.setIfInBounds_toArray,List.set_cons_zero,List.set_cons_succ]
  obtain ⟨⟨yc,yd,-⟩,-⟩ := hS.cells
  clear fr4_2 fr4_5 fr4_6
  go_wp2_with fail
  refine (unhide HL _).mono ?_
  rintro e w2 ⟨rfl,hb2⟩
  replace hS := hS.kept hb2
  clear yc yd
  obtain ⟨⟨ye,yf,-⟩,-⟩ := hS.cells
  go_wp2
  go_ret2
  exact ⟨rfl,hS.fr⟩
theorem pick_tt (E F a b : Int) (H0 : Tel 15 #[.agg #[.int .i64 E,.int .i64 F],.int .u64 a] (.int .i64 0)) (H1 : Tel 15 #[.agg #[.int .i64 E,.int .i64 F],.int .u64 b] (.int .i64 0)) (g0 n0 q0 i0 s0 g1 n1 q1 i1 s1 : Bool) (m0 m1 : Nat) (x0 x1 : Int) (HO0 : Hid (OpR E F a g0 n0 q0 i0 s0 m0 x0)) (HO1 : Hid (OpR E F b g1 n1 q1 i1 s1 m1 x1)) (hr : (n0 || n1) = false) (HL : Hid (∀ W : World,Calls Tryz.prog 29 #[.agg #[.int .i64 E,.int .i64 F],.int .u64 a,.int .u64 b] W fun e w' => e = .returned (.bool true) ∧ Below W.heap.size W w')) (w : World)  :
  Calls Tryz.prog 18 #[.agg #[.int .i64 E,.int .i64 F],.int .u64 a,.int .u64 b,.bool true] w fun e w' => e = .returned (.tuple #[.int .u64 b,.int .i64 0]) ∧ Below w.heap.size w w' := by
 have HN : Hid (∀ (W : World) (base b : Nat),Nl2 base b n0 q0 n1 q1 W → Calls Tryz.prog 26 #[.slice (some ⟨b,0,none⟩) 2 2] W fun e w' => e = .returned (.tuple #[.bool false,.int .u8 (fl16 ((n0 && !q0) || (n1 && !q1)))]) ∧ Below W.heap.size W w') := hide (fun W base b h => by have := nans2_of W base b n0 q0 n1 q1 h; rw [hr] at this; exact this)
 obtain ⟨fl,hfl⟩ : ∃ fl,fl16 ((n0 && !q0) || (n1 && !q1)) = fl := ⟨_,rfl⟩
 rw [hfl] at HN
 clear hr hfl
 go_enter Tryz.func18,Tryz.ntmps18
 go_wp2_with fail
 refine (asked2_ok E F 0 _ a b H0 H1 (by decide) _ (by have := heap_alloc_new (w.alloc (.cells #[.int .i64 E,.int .i64 F] 23)) (.cells #[.int .u64 a,.int .u64 b] 24); simpa only [World.size_alloc] using this)).mono ?_
 rintro e w1 ⟨rfl,hb1⟩
 have hS : Fs w (w.alloc (.cells #[.int .i64 E,.int .i64 F] 23)) [⟨w.heap.size,#[.int .i64 E,.int .i64 F],23⟩] := Fs.one w _ _
 replace hS := ((hS.alloc #[.int .u64 a,.int .u64 b] 24).kept hb1).sub (fun x hx => List.mem_cons_of_mem _ hx)
 obtain ⟨⟨ya,yb,-⟩,-⟩ := hS.cells
 go_wp2_with fail
 have hS3s : w.heap.size ≤ w1.heap.size := hS.size
 have hs9 : ∀ x9 : Nat × (Pk → World → Prop),x9 ∈ ([(2,fun q W => Mine W w1.heap.size q.A q.N q.C m0),(5,fun q W => Mine W w1.heap.size q.A q.N q.C m1),(6,fun q W => Nl2 w1.heap.size q.N n0 q0 n1 q1 W)] : List (Nat × (Pk → World → Prop))) → ∀ q9 : Pk,St w1.heap.size (x9.2 q9) := by
  intro x hx q
  simp only [List.mem_cons,List.not_mem_nil,or_false] at hx
  rcases hx with rfl | rfl | rfl
  ·exact st_mine _ _ _ _ _
  ·exact st_mine _ _ _ _ _
  ·exact st_nl2 _ _ _ _ _ _
 have h09 : ∀ x9 : Nat × (Pk → World → Prop),x9 ∈ ([(2,fun q W => Mine W w1.heap.size q.A q.N q.C m0),(5,fun q W => Mine W w1.heap.size q.A q.N q.C m1),(6,fun q W => Nl2 w1.heap.size q.N n0 q0 n1 q1 W)] : List (Nat × (Pk → World → Prop))) → 13 ≤ x9.1 → x9.2 ⟨none,0,0⟩ w1 := by
  intro x hx hn9
  simp only [List.mem_cons,List.not_mem_nil,or_false] at hx
  rcases hx with rfl | rfl | rfl
  ·exact absurd hn9 (by simp)
  ·exact absurd hn9 (by simp)
  ·exact absurd hn9 (by simp)
 refine wp_region_any (by kernel_rfl) ?_
 refine wpAny_pick (fun p9 => [some (22,.agg #[.int .i64 E,.int .i64 F]),some (23,.int .u64 a),some (24,.agg #[.bool g0,.bool n0,.bool q0,.bool i0,.bool s0,.slice (p9 2).A (p9 2).N (p9 2).C,.int .i64 x0]),some (25,.agg #[.int .i64 E,.int .i64 F]),some (26,.int .u64 b),some (27,.agg #[.bool g1,.bool n1,.bool q1,.bool i1,.bool s1,.slice (p9 5).A (p9 5).N (p9 5).C,.int .i64 x1]),some (28,.slice (some ⟨(p9 6).N,0,none⟩) 2 2),some (29,.tuple #[.bool false,.int .u8 fl]),some (21,.tuple #[.bool false,.int .u8 fl]),some (30,.bool false),some (31,.int .u8 fl),some (11,.bool false),some (12,.int .u8 fl)])
  (fun p9 l9 W9 => Pm w w1.heap.size [(2,fun q W => Mine W w1.heap.size q.A q.N q.C m0),(5,fun q W => Mine W w1.heap.size q.A q.N q.C m1),(6,fun q W => Nl2 w1.heap.size q.N n0 q0 n1 q1 W)] p9 l9 W9 [⟨w.heap.size,#[.int .i64 E,.int .i64 F],23⟩]) _ _ (fun _ => rfl) (by kernel_rfl) (fun _ => rfl) (fun _ => rfl) ?_ ?_ (fun _ => ⟨none,0,0⟩) (Pm.start hS _ _ _ hs9 h09)
 ·intro p9 l9 t9 W9 i9 hD hi9 hl9 hM
  obtain ⟨o9,ho9,hd9⟩ := (mem_ready.1 hi9).2
  have hin9 : i9 < 13 := by
   by_cases h : i9 < 13
   ·exact h
   ·rw [Array.getElem?_eq_none (by rw [hD.len]; simp; omega)] at hl9; cases hl9
  have hcase : i9 = 0 ∨ i9 = 1 ∨ i9 = 2 ∨ i9 = 3 ∨ i9 = 4 ∨ i9 = 5 ∨ i9 = 6 ∨ i9 = 7 ∨ i9 = 8 ∨ i9 = 9 ∨ i9 = 10 ∨ i9 = 11 ∨ i9 = 12 := by omega
  clear hin9
  rcases hcase with rfl | rfl | rfl | rfl | rfl | rfl | rfl | rfl | rfl | rfl | rfl | rfl | rfl
  ·cases ho9
   have r4 := hD.old 4 _ rfl rfl
   have hM0 := hM.st
   have Q_ := hM0.cellAt (b := w.heap.size) (cs := #[.int .i64 E,.int .i64 F]) (t := 23) (by simp)
   have c9_0 := Q_ 0 _ rfl
   have c9_1 := Q_ 1 _ rfl
   clear Q_
   clear hM0
   refine wpOp_step rfl fun K hK => ?_
   go_simp
   exact hK _ _ ⟨p9,fun _ _ => rfl,rfl,(hM.val rfl)⟩
  ·cases ho9
   have r1 := hD.old 1 _ rfl rfl
   refine wpOp_step rfl fun K hK => ?_
   go_simp
   exact hK _ _ ⟨p9,fun _ _ => rfl,rfl,(hM.val rfl)⟩
  ·cases ho9
   have r22 := hD.od hd9 0 22 _ rfl (by simp)
   have r23 := hD.od hd9 1 23 _ rfl (by simp)
   have HD := hide hD
   refine wpOp_step rfl fun K hK => ?_
   go_simp
   go_wp2_with fail
   refine (unhide HO0 _).mono ?_
   rintro en w9 ⟨⟨a9,n9,c9,rfl,h9⟩,hb9⟩
   refine hK _ _ ⟨p9.set 2 ⟨a9,n9,c9⟩,?_,rfl,((hM.kept hs9 hb9).pick ⟨a9,n9,c9⟩ ?_)⟩
   ·intro k9 hk9
    clear hM hK
    match k9,hk9 with
    | 0,_ => rfl
    | 1,_ => rfl
    | 2,hk9 => exact absurd (hl9.symm.trans hk9) (by simp)
    | 3,_ => rfl
    | 4,_ => rfl
    | 5,hk9 => exact absurd (hl9.symm.trans (getD_true ((unhide HD).shut 5 _ (hk9) rfl ⟨2,.chain⟩ (by simp) rfl))) (by simp)
    | 6,hk9 => exact absurd (hl9.symm.trans (getD_true ((unhide HD).shut 6 _ (hk9) rfl ⟨2,.data⟩ (by simp) rfl))) (by simp)
    | 7,hk9 => exact absurd (hl9.symm.trans (getD_true ((unhide HD).shut 6 _ (getD_true ((unhide HD).shut 7 _ (hk9) rfl ⟨6,.data⟩ (by simp) rfl)) rfl ⟨2,.data⟩ (by simp) rfl))) (by simp)
    | 8,hk9 => exact absurd (hl9.symm.trans (getD_true ((unhide HD).shut 6 _ (getD_true ((unhide HD).shut 7 _ (getD_true ((unhide HD).shut 8 _ (hk9) rfl ⟨7,.data⟩ (by simp) rfl)) rfl ⟨6,.data⟩ (by simp) rfl)) rfl ⟨2,.data⟩ (by simp) rfl))) (by simp)
    | 9,hk9 => exact absurd (hl9.symm.trans (getD_true ((unhide HD).shut 6 _ (getD_true ((unhide HD).shut 7 _ (getD_true ((unhide HD).shut 8 _ (getD_true ((unhide HD).shut 9 _ (hk9) rfl ⟨8,.data⟩ (by simp) rfl)) rfl ⟨7,.data⟩ (by simp) rfl)) rfl ⟨6,.data⟩ (by simp) rfl)) rfl ⟨2,.data⟩ (by simp) rfl))) (by simp)
    | 10,hk9 => exact absurd (hl9.symm.trans (getD_true ((unhide HD).shut 6 _ (getD_true ((unhide HD).shut 7 _ (getD_true ((unhide HD).shut 8 _ (getD_true ((unhide HD).shut 10 _ (hk9) rfl ⟨8,.data⟩ (by simp) rfl)) rfl ⟨7,.data⟩ (by simp) rfl)) rfl ⟨6,.data⟩ (by simp) rfl)) rfl ⟨2,.data⟩ (by simp) rfl))) (by simp)
    | 11,hk9 => exact absurd (hl9.symm.trans (getD_true ((unhide HD).shut 11 _ (hk9) rfl ⟨2,.phase⟩ (by simp) rfl))) (by simp)
    | 12,hk9 => exact absurd (hl9.symm.trans (getD_true ((unhide HD).shut 12 _ (hk9) rfl ⟨2,.phase⟩ (by simp) rfl))) (by simp)
    | k9 + 13,_ => rfl
   ·intro x hx he; simp only [List.mem_cons,List.not_mem_nil,or_false] at hx; rcases hx with rfl | rfl | rfl
    ·exact h9.mono hM.bw
    ·exact absurd he (by simp)
    ·exact absurd he (by simp)
  ·cases ho9
   have r4 := hD.old 4 _ rfl rfl
   have hM0 := hM.st
   have Q_ := hM0.cellAt (b := w.heap.size) (cs := #[.int .i64 E,.int .i64 F]) (t := 23) (by simp)
   have c9_0 := Q_ 0 _ rfl
   have c9_1 := Q_ 1 _ rfl
   clear Q_
   clear hM0
   refine wpOp_step rfl fun K hK => ?_
   go_simp
   exact hK _ _ ⟨p9,fun _ _ => rfl,rfl,(hM.val rfl)⟩
  ·cases ho9
   have r2 := hD.old 2 _ rfl rfl
   refine wpOp_step rfl fun K hK => ?_
   go_simp
   exact hK _ _ ⟨p9,fun _ _ => rfl,rfl,(hM.val rfl)⟩
  ·cases ho9
   have r25 := hD.od hd9 3 25 _ rfl (by simp)
   have r26 := hD.od hd9 4 26 _ rfl (by simp)
   have g2 := hM.fx _ (List.mem_of_getElem? (i := 0) rfl) (Or.inl (getD_true (hd9 ⟨2,.chain⟩ (by simp) rfl)))
   simp only [] at g2
   have HD := hide hD
   refine wpOp_step rfl fun K hK => ?_
   go_simp
   go_wp2_with fail
   refine (unhide HO1 _).mono ?_
   rintro en w9 ⟨⟨a9,n9,c9,rfl,h9⟩,hb9⟩
   refine hK _ _ ⟨p9.set 5 ⟨a9,n9,c9⟩,?_,rfl,((hM.kept hs9 hb9).pick ⟨a9,n9,c9⟩ ?_)⟩
   ·intro k9 hk9
    clear hM hK
    match k9,hk9 with
    | 0,_ => rfl
    | 1,_ => rfl
    | 2,_ => rfl
    | 3,_ => rfl
    | 4,_ => rfl
    | 5,hk9 => exact absurd (hl9.symm.trans hk9) (by simp)
    | 6,hk9 => exact absurd (hl9.symm.trans (getD_true ((unhide HD).shut 6 _ (hk9) rfl ⟨5,.data⟩ (by simp) rfl))) (by simp)
    | 7,hk9 => exact absurd (hl9.symm.trans (getD_true ((unhide HD).shut 7 _ (hk9) rfl ⟨5,.chain⟩ (by simp) rfl))) (by simp)
    | 8,hk9 => exact absurd (hl9.symm.trans (getD_true ((unhide HD).shut 7 _ (getD_true ((unhide HD).shut 8 _ (hk9) rfl ⟨7,.data⟩ (by simp) rfl)) rfl ⟨5,.chain⟩ (by simp) rfl))) (by simp)
    | 9,hk9 => exact absurd (hl9.symm.trans (getD_true ((unhide HD).shut 7 _ (getD_true ((unhide HD).shut 8 _ (getD_true ((unhide HD).shut 9 _ (hk9) rfl ⟨8,.data⟩ (by simp) rfl)) rfl ⟨7,.data⟩ (by simp) rfl)) rfl ⟨5,.chain⟩ (by simp) rfl))) (by simp)
    | 10,hk9 => exact absurd (hl9.symm.trans (getD_true ((unhide HD).shut 7 _ (getD_true ((unhide HD).shut 8 _ (getD_true ((unhide HD).shut 10 _ (hk9) rfl ⟨8,.data⟩ (by simp) rfl)) rfl ⟨7,.data⟩ (by simp) rfl)) rfl ⟨5,.chain⟩ (by simp) rfl))) (by simp)
    | 11,hk9 => exact absurd (hl9.symm.trans (getD_true ((unhide HD).shut 11 _ (hk9) rfl ⟨5,.phase⟩ (by simp) rfl))) (by simp)
    | 12,hk9 => exact absurd (hl9.symm.trans (getD_true ((unhide HD).shut 12 _ (hk9) rfl ⟨5,.phase⟩ (by simp) rfl))) (by simp)
    | k9 + 13,_ => rfl
   ·intro x hx he; simp only [List.mem_cons,List.not_mem_nil,or_false] at hx; rcases hx with rfl | rfl | rfl
    ·exact absurd he (by simp)
    ·exact h9.mono hM.bw
    ·exact absurd he (by simp)
  ·cases ho9
   have r24 := hD.od hd9 2 24 _ rfl (by simp)
   have r27 := hD.od hd9 5 27 _ rfl (by simp)
   have g2 := hM.fx _ (List.mem_of_getElem? (i := 0) rfl) (Or.inl (getD_true (hd9 ⟨2,.data⟩ (by simp) rfl)))
   simp only [] at g2
   have g5 := hM.fx _ (List.mem_of_getElem? (i := 1) rfl) (Or.inl (getD_true (hd9 ⟨5,.data⟩ (by simp) rfl)))
   simp only [] at g5
   have HD := hide hD
   refine wpOp_step rfl fun K hK => ?_
   go_simp
   have hb9 := gr_alloc W9 (.cells #[.bool g0,.bool n0,.bool q0,.bool i0,.bool s0,.slice (p9 2).A (p9 2).N (p9 2).C,.int .i64 x0,.bool g1,.bool n1,.bool q1,.bool i1,.bool s1,.slice (p9 5).A (p9 5).N (p9 5).C,.int .i64 x1] 59)
   refine hK _ _ ⟨p9.set 6 ⟨none,W9.heap.size,0⟩,?_,rfl,((hM.kept hs9 hb9).pick ⟨none,W9.heap.size,0⟩ ?_)⟩
   ·intro k9 hk9
    clear hM hK
    match k9,hk9 with
    | 0,_ => rfl
    | 1,_ => rfl
    | 2,_ => rfl
    | 3,_ => rfl
    | 4,_ => rfl
    | 5,_ => rfl
    | 6,hk9 => exact absurd (hl9.symm.trans hk9) (by simp)
    | 7,hk9 => exact absurd (hl9.symm.trans (getD_true ((unhide HD).shut 7 _ (hk9) rfl ⟨6,.data⟩ (by simp) rfl))) (by simp)
    | 8,hk9 => exact absurd (hl9.symm.trans (getD_true ((unhide HD).shut 7 _ (getD_true ((unhide HD).shut 8 _ (hk9) rfl ⟨7,.data⟩ (by simp) rfl)) rfl ⟨6,.data⟩ (by simp) rfl))) (by simp)
    | 9,hk9 => exact absurd (hl9.symm.trans (getD_true ((unhide HD).shut 7 _ (getD_true ((unhide HD).shut 8 _ (getD_true ((unhide HD).shut 9 _ (hk9) rfl ⟨8,.data⟩ (by simp) rfl)) rfl ⟨7,.data⟩ (by simp) rfl)) rfl ⟨6,.data⟩ (by simp) rfl))) (by simp)
    | 10,hk9 => exact absurd (hl9.symm.trans (getD_true ((unhide HD).shut 7 _ (getD_true ((unhide HD).shut 8 _ (getD_true ((unhide HD).shut 10 _ (hk9) rfl ⟨8,.data⟩ (by simp) rfl)) rfl ⟨7,.data⟩ (by simp) rfl)) rfl ⟨6,.data⟩ (by simp) rfl))) (by simp)
    | 11,hk9 => exact absurd (hl9.symm.trans (getD_true ((unhide HD).shut 11 _ (hk9) rfl ⟨6,.phase⟩ (by simp) rfl))) (by simp)
    | 12,hk9 => exact absurd (hl9.symm.trans (getD_true ((unhide HD).shut 12 _ (hk9) rfl ⟨6,.phase⟩ (by simp) rfl))) (by simp)
    | k9 + 13,_ => rfl
   ·intro x hx he; simp only [List.mem_cons,List.not_mem_nil,or_false] at hx; rcases hx with rfl | rfl | rfl
    ·exact absurd he (by simp)
    ·exact absurd he (by simp)
    ·exact Nl2.made hM.bw rfl rfl rfl rfl
  ·cases ho9
   have r28 := hD.od hd9 6 28 _ rfl (by simp)
   have g2 := hM.fx _ (List.mem_of_getElem? (i := 0) rfl) (Or.inl (getD_true (hD.shut 6 _ (getD_true (hd9 ⟨6,.data⟩ (by simp) rfl)) rfl ⟨2,.data⟩ (by simp) rfl)))
   simp only [] at g2
   have g5 := hM.fx _ (List.mem_of_getElem? (i := 1) rfl) (Or.inl (getD_true (hd9 ⟨5,.chain⟩ (by simp) rfl)))
   simp only [] at g5
   have g6 := hM.fx _ (List.mem_of_getElem? (i := 2) rfl) (Or.inl (getD_true (hd9 ⟨6,.data⟩ (by simp) rfl)))
   simp only [] at g6
   refine wpOp_step rfl fun K hK => ?_
   go_simp
   go_wp2_with fail
   refine (unhide HN _ _ _ g6).mono ?_
   rintro en w9 ⟨rfl,hb9⟩
   exact hK _ _ ⟨p9,fun _ _ => rfl,rfl,((hM.kept hs9 hb9).val rfl)⟩
  ·cases ho9
   have r29 := hD.od hd9 7 29 _ rfl (by simp)
   refine wpOp_step rfl fun K hK => ?_
   go_simp
   exact hK _ _ ⟨p9,fun _ _ => rfl,rfl,(hM.val rfl)⟩
  ·cases ho9
   have r21 := hD.od hd9 8 21 _ rfl (by simp)
   refine wpOp_step rfl fun K hK => ?_
   go_simp
   exact hK _ _ ⟨p9,fun _ _ => rfl,rfl,(hM.val rfl)⟩
  ·cases ho9
   have r21 := hD.od hd9 8 21 _ rfl (by simp)
   refine wpOp_step rfl fun K hK => ?_
   go_simp
   exact hK _ _ ⟨p9,fun _ _ => rfl,rfl,(hM.val rfl)⟩
  ·cases ho9
   have r30 := hD.od hd9 9 30 _ rfl (by simp)
   refine wpOp_step rfl fun K hK => ?_
   go_simp
   exact hK _ _ ⟨p9,fun _ _ => rfl,rfl,(hM.val rfl)⟩
  ·cases ho9
   have r31 := hD.od hd9 10 31 _ rfl (by simp)
   refine wpOp_step rfl fun K hK => ?_
   go_simp
   exact hK _ _ ⟨p9,fun _ _ => rfl,rfl,(hM.val rfl)⟩
 ·intro p9 l9 W9 hn9 hl9 hM
  have fr4_2 := hM.fx _ (List.mem_of_getElem? (i := 0) rfl) (Or.inl (hl9 2 (by decide)))
  have fr4_5 := hM.fx _ (List.mem_of_getElem? (i := 1) rfl) (Or.inl (hl9 5 (by decide)))
  have fr4_6 := hM.fx _ (List.mem_of_getElem? (i := 2) rfl) (Or.inl (hl9 6 (by decide)))
  replace hM := hM.st
  clear hl9 hs9 h09 hn9
  generalize p9 2 = q2 at *
  obtain ⟨Ar4_2,Nr4_2,Cr4_2⟩ := q2
  simp only [] at fr4_2
  generalize p9 5 = q5 at *
  obtain ⟨Ar4_5,Nr4_5,Cr4_5⟩ := q5
  simp only [] at fr4_5
  generalize p9 6 = q6 at *
  obtain ⟨Ar4_6,Nr4_6,Cr4_6⟩ := q6
  simp only [] at fr4_6
  clear hS ya yb
  have hS := hM
  clear hM
  simp only [Puts.lay,List.setIfInBounds_toArray,List.set_cons_zero,List.set_cons_succ]
  obtain ⟨⟨yc,yd,-⟩,-⟩ := hS.cells
  clear fr4_2 fr4_5 fr4_6
  go_wp2_with fail
  refine (unhide HL _).mono ?_
  rintro e w2 ⟨rfl,hb2⟩
  replace hS := hS.kept hb2
  clear yc yd
  obtain ⟨⟨ye,yf,-⟩,-⟩ := hS.cells
  go_wp2
  go_ret2
  exact ⟨rfl,hS.fr⟩
theorem xMin_is (E F a b x y : Int) (H : Tel 18 #[.agg #[.int .i64 E,.int .i64 F],.int .u64 a,.int .u64 b,.bool false] (.tuple #[.int .u64 x,.int .i64 y])) (w : World)  :
  Calls Tryz.prog 10 #[.agg #[.int .i64 E,.int .i64 F],.int .u64 a,.int .u64 b] w fun e w' => e = .returned (.tuple #[.int .u64 x,.int .i64 y]) ∧ Below w.heap.size w w' := by
 go_enter Tryz.func10,Tryz.ntmps10
 go_wp2_with fail
 refine (H _).mono ?_
 rintro e w1 ⟨rfl,hb1⟩
 have hS := (Fs.one w _ _).kept hb1
 obtain ⟨⟨ya,yb,-⟩,-⟩ := hS.cells
 go_wp2
 go_ret2
 exact ⟨rfl,hS.fr⟩
theorem xMax_is (E F a b x y : Int) (H : Tel 18 #[.agg #[.int .i64 E,.int .i64 F],.int .u64 a,.int .u64 b,.bool true] (.tuple #[.int .u64 x,.int .i64 y])) (w : World)  :
  Calls Tryz.prog 12 #[.agg #[.int .i64 E,.int .i64 F],.int .u64 a,.int .u64 b] w fun e w' => e = .returned (.tuple #[.int .u64 x,.int .i64 y]) ∧ Below w.heap.size w w' := by
 go_enter Tryz.func12,Tryz.ntmps12
 go_wp2_with fail
 refine (H _).mono ?_
 rintro e w1 ⟨rfl,hb1⟩
 have hS := (Fs.one w _ _).kept hb1
 obtain ⟨⟨ya,yb,-⟩,-⟩ := hS.cells
 go_wp2
 go_ret2
 exact ⟨rfl,hS.fr⟩
theorem vals_wo {E F B b ex fr M z : Nat} {s : Bool} {xe : Int} (h0 : Fo E F) (HB : Hid (B = 2 ^ (E - 1) - 1)) (hB : Bt E F b s ex fr) (hW : Wo E F B ex fr M z xe) : Vals E F b s (M / 2 ^ z) (xe + (z : Int)) := fun W hT =>
 Value_wo E F B b ex fr s M z xe W h0 HB hB hW hT
end Go.Proofs.YtongmpfampjdoaaGreatDoor
