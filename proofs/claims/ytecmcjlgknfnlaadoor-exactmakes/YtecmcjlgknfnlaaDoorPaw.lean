/- Of what ExactMakesRow stands on: ExAlive ExDya4 ExMakesLaw. -/
import Derived.Test.YtecmcjlgknfnlaaDoorPau
import Derived.Test.YtecmcjlgknfnlaaDoorPav
import Derived.Test.YtecmcjlgknfnlaaDoorPag
import Derived.Test.YtecmcjlgknfnlaaDoorPan
namespace Go.Proofs.YtecmcjlgknfnlaaDoor
open Go.RowKit
set_option maxHeartbeats 400000 in
theorem dsame_true (a : Option Addr) (n cap m : Nat) (a' : Option Addr) (n' cap' : Nat) (x : Int) (w : World) (h : Num w a n m) (h' : Num w a' n' m) :
  Calls Tryd.prog 32 #[.agg #[.bool true,.slice a n cap,.int .i64 x],.agg #[.bool true,.slice a' n' cap',.int .i64 x]] w fun e w' => e = .returned (.bool true) ∧ Below w.heap.size w w' := by
 have H := hide h
 have H' := hide h'
 clear h h'
 go_enter Tryd.func32,Tryd.ntmps32
 have HC := hide (same_any a a' n n' cap cap' m m _ (((unhide H).alloc (.cells #[.bool true,.slice a n cap,.int .i64 x] 26)).alloc (.cells #[.bool true,.slice a' n' cap',.int .i64 x] 26)) (((unhide H').alloc _).alloc _))
 rw [decide_eq_true (rfl : m = m)] at HC
 go_wp2_with fail
 refine (unhide HC).mono ?_
 rintro e w1 ⟨rfl,hb1⟩
 have hS := (Fs.two w _ _ _ _).kept hb1
 obtain ⟨⟨z1_0_0,z1_0_1,z1_0_2,-⟩,⟨z1_1_0,z1_1_1,z1_1_2,-⟩,-⟩ := hS.cells
 go_wp2
 go_ret
 exact ⟨rfl,hS.fr⟩
set_option maxHeartbeats 400000 in
theorem dsame_false (a : Option Addr) (n cap m : Nat) (a' : Option Addr) (n' cap' : Nat) (x : Int) (w : World) (h : Num w a n m) (h' : Num w a' n' m) :
  Calls Tryd.prog 32 #[.agg #[.bool false,.slice a n cap,.int .i64 x],.agg #[.bool false,.slice a' n' cap',.int .i64 x]] w fun e w' => e = .returned (.bool true) ∧ Below w.heap.size w w' := by
 have H := hide h
 have H' := hide h'
 clear h h'
 go_enter Tryd.func32,Tryd.ntmps32
 have HC := hide (same_any a a' n n' cap cap' m m _ (((unhide H).alloc (.cells #[.bool false,.slice a n cap,.int .i64 x] 26)).alloc (.cells #[.bool false,.slice a' n' cap',.int .i64 x] 26)) (((unhide H').alloc _).alloc _))
 rw [decide_eq_true (rfl : m = m)] at HC
 go_wp2_with fail
 refine (unhide HC).mono ?_
 rintro e w1 ⟨rfl,hb1⟩
 have hS := (Fs.two w _ _ _ _).kept hb1
 obtain ⟨⟨z1_0_0,z1_0_1,z1_0_2,-⟩,⟨z1_1_0,z1_1_1,z1_1_2,-⟩,-⟩ := hS.cells
 go_wp2
 go_ret
 exact ⟨rfl,hS.fr⟩
theorem dsame_any (s : Bool) (a : Option Addr) (n cap m : Nat) (a' : Option Addr) (n' cap' : Nat) (x : Int) (w : World) (h : Num w a n m) (h' : Num w a' n' m) :
  Calls Tryd.prog 32 #[.agg #[.bool s,.slice a n cap,.int .i64 x],.agg #[.bool s,.slice a' n' cap',.int .i64 x]] w fun e w' => e = .returned (.bool true) ∧ Below w.heap.size w w' := by
 cases s
 ·exact dsame_false a n cap m a' n' cap' x w h h'
 ·exact dsame_true a n cap m a' n' cap' x w h h'
end Go.Proofs.YtecmcjlgknfnlaaDoor
namespace Go.Proofs.YtecmcjlgknfnlaaDoor
open Go.RowKit
set_option maxHeartbeats 2000000 in
theorem led_dyadic (p base n : Nat) (vg vw : Value) (gs ws : List Value) (s : Bool) (a b : Option Addr) (na nb ca cb m : Nat) (x e : Int) (w : World) (hL : Led w p base n vg vw gs ws) (hA : Mine w base a na ca m) (hf : ∀ u ∈ gs,ApartV (.slice a na ca) u) (hW : Mine w base b nb cb m) (hb : base ≤ w.heap.size) (hn : n ≤ 1000) :
  Calls Tryd.prog 12 #[.pointer (some ⟨p,0,none⟩),.agg #[.bool s,.slice a na ca,.int .i64 x],.int .i64 e,.agg #[.bool s,.slice b nb cb,.int .i64 x],.int .i64 e] w
   (LedTo w p base n vg vw gs ws (.slice a na ca) (.slice b nb cb)) := by
 have HA := hide hA
 have HF := hide hf
 have HW := hide hW
 have HL := hide hL
 have ex : (e != e) = false := by simp
 have es : (s != s) = false := by simp
 have ey : (x != x) = false := by simp
 clear hA hf hW hL
 go_enter Tryd.func12,Tryd.ntmps12
 go_wp2_with fail
 refine (dsame_any s a na ca m b nb cb x _ (((unhide HA).num.alloc _).alloc _) (((unhide HW).num.alloc _).alloc _)).mono ?_
 rintro en w1 ⟨rfl,hb1⟩
 have hS := (Fs.two w _ _ _ _).kept hb1
 obtain ⟨⟨z0,z1,z2,-⟩,⟨z3,z4,z5,-⟩,-⟩ := hS.cells
 go_wp2_with fail
 refine (led_adds p base n vg vw gs ws a b na nb ca cb m _ ((unhide HL).kept hS.fr) ((unhide HA).kept hS.fr) (unhide HF) ((unhide HW).kept hS.fr) (Nat.le_trans hb hS.fr.size) hn).mono ?_
 rintro en w2 h2
 have h3 := LedTo.back hb hS.fr h2
 obtain ⟨rfl,h4⟩ := h3
 have H4 := hide h4
 go_wp2
 go_end0
 exact ⟨rfl,unhide H4⟩
end Go.Proofs.YtecmcjlgknfnlaaDoor
namespace Go.Proofs.YtecmcjlgknfnlaaDoor
open Go.RowKit
structure Mk (w W : World) (p g n c ca qa qd qx k : Nat) (a : Option Addr) (xs : List Nat) (q : Bool) (A1 : Option Addr) (N1 C1 v : Nat) (y : Int) (vg vw : Value) (gs ws : List Value) : Prop where
 led : Led W p w.heap.size k vg vw gs ws
 lt : Lt W w.heap.size g n c xs
 ba : Bd W vg vw qa #[.slice a n ca] 24
 bd : Bd W vg vw qd #[.bool q,.slice A1 N1 C1,.int .i64 y] 26
 bx : Bd W vg vw qx #[.slice (some ⟨g,0,none⟩) n c] 24
 mw : Mine W w.heap.size A1 N1 C1 v
 bel : Below w.heap.size w W
 ap : ∀ u ∈ gs,ApartV (.slice (some ⟨g,0,none⟩) n c) u
theorem Mk.kept {w W W' : World} {p g n c ca qa qd qx k : Nat} {a : Option Addr} {xs : List Nat} {q : Bool} {A1 : Option Addr} {N1 C1 v : Nat} {y : Int} {vg vw : Value} {gs ws : List Value} (h : Mk w W p g n c ca qa qd qx k a xs q A1 N1 C1 v y vg vw gs ws) (hb : Below W.heap.size W W') : Mk w W' p g n c ca qa qd qx k a xs q A1 N1 C1 v y vg vw gs ws :=
 ⟨h.led.kept hb,h.lt.kept hb,h.ba.kept hb,h.bd.kept hb,h.bx.kept hb,h.mw.kept hb,gr_trans h.bel hb,h.ap⟩
theorem Mk.alloc {w W : World} {p g n c ca qa qd qx k : Nat} {a : Option Addr} {xs : List Nat} {q : Bool} {A1 : Option Addr} {N1 C1 v : Nat} {y : Int} {vg vw : Value} {gs ws : List Value} (h : Mk w W p g n c ca qa qd qx k a xs q A1 N1 C1 v y vg vw gs ws) (o : Obj) : Mk w (W.alloc o) p g n c ca qa qd qx k a xs q A1 N1 C1 v y vg vw gs ws := h.kept (gr_alloc _ _)
theorem Mk.added {w W W' : World} {p g n c ca qa qd qx k : Nat} {a : Option Addr} {xs : List Nat} {q : Bool} {A1 : Option Addr} {N1 C1 v : Nat} {y : Int} {vg vw vg' vw' : Value} {gs ws ws' : List Value} {u : Value} (h : Mk w W p g n c ca qa qd qx k a xs q A1 N1 C1 v y vg vw gs ws) (hl : Led W' p w.heap.size (k + 1) vg' vw' (gs ++ [u]) ws') (ha : Ad W W' p w.heap.size vg vw vg' vw') (hv : ApartV (.slice (some ⟨g,0,none⟩) n c) u) : Mk w W' p g n c ca qa qd qx (k + 1) a xs q A1 N1 C1 v y vg' vw' (gs ++ [u]) ws' :=
 ⟨hl,h.lt.added ha,h.ba.added h.led ha,h.bd.added h.led ha,h.bx.added h.led ha,h.mw.added ha,h.bel.trans ha.bel,fun z hz => by
  rcases List.mem_append.1 hz with hz | hz
  ·exact h.ap z hz
  ·rw [List.mem_singleton.1 hz]; exact hv⟩
theorem Mk.far {w W W' : World} {p g n c ca qa qd qx k : Nat} {a : Option Addr} {xs : List Nat} {q : Bool} {A1 : Option Addr} {N1 C1 v : Nat} {y : Int} {vg vw : Value} {gs ws : List Value} (h : Mk w W p g n c ca qa qd qx k a xs q A1 N1 C1 v y vg vw gs ws) {b : Option Addr} {l cb m : Nat} (hm : Mine W' W.heap.size b l cb m) : ApartV (.slice (some ⟨g,0,none⟩) n c) (.slice b l cb) := by
 obtain ⟨ys,_,ho,_⟩ := hm
 intro j hj hj2
 have h1 := h.lt.short.lt j hj
 have h2 := ho.lt j hj2
 omega
set_option maxHeartbeats 4000000 in
set_option maxRecDepth 20000 in
theorem makes_any (s : Bool) (a : Option Addr) (n ca : Nat) (xs : List Nat) (x : Int) (w : World) (hT : Tb w) (hn : xs.length = n) (hl : Lim w a xs) (hw : Pl.Wf xs) (hb : n ≤ 35184372087808) :
  Calls Tryd.prog 3 #[.bool s,.agg #[.slice a n ca],.int .i64 x] w fun e w' => e = .returned (.bool true) ∧ Below w.heap.size w w' := by
 obtain ⟨q,v,y,er,hR,hP⟩ := make_both s xs n x hn hw (by omega)
 have HR := hide hR
 have HP := hide hP
 have HL := hide hl
 have HT := hide hT
 have HLN := hide (fun (W : World) (hW : Below w.heap.size w W) => lent_any a n ca xs W hn (hl.below hW) hb)
 clear hR hP hl hn hT
 go_enter Tryd.func3,Tryd.ntmps3
 go_wp2_with fail
 refine (unhide HR _ a ca ((unhide HL).alloc _)).mono ?_
 rintro e w1 ⟨⟨A1,N1,C1,rfl,hm1⟩,hb1⟩
 have hb1' := gr_trans (gr_alloc w (.cells #[.slice a n ca] 24)) hb1
 have hB1 := gr_trans hb1' (gr_alloc w1 (.cells #[.bool q,.slice A1 N1 C1,.int .i64 y] 26))
 have hxa := ((Box.made w (.slice a n ca)).kept hb1).alloc (.cells #[.bool q,.slice A1 N1 C1,.int .i64 y] 26)
 have HM1 := hide ((hm1.mono (base' := w.heap.size) (by simp)).alloc (.cells #[.bool q,.slice A1 N1 C1,.int .i64 y] 26))
 have HXA := hide hxa
 have HB1 := hide hB1
 have hx := hxa.cell
 clear hm1 hb1 hb1' hB1 hxa
 go_wp2_with fail
 refine (unhide HLN _ (unhide HB1)).mono ?_
 rintro e w2 ⟨⟨g,c,rfl,hlt⟩,hb2⟩
 obtain ⟨W,hW⟩ : ∃ W,(w2.alloc (.cells #[.slice (some ⟨g,0,none⟩) n c] 24)).alloc (.cells #[.slice none 0 0,.slice none 0 0,.bool false] 34) = W := ⟨_,rfl⟩
 have hb0 := gr_trans (unhide HB1) hb2
 have hs1 := hb0.size
 have hS0 : Mk w W (w2.heap.size + 1) g n c ca w.heap.size w1.heap.size w2.heap.size 0 a xs q A1 N1 C1 v y (.slice none 0 0) (.slice none 0 0) [] [] := by
  rw [← hW]
  refine ⟨?_,((hlt.mono (by have := (unhide HB1).size; simpa using this)).alloc _).alloc _,⟨(((unhide HXA).kept hb2).alloc _).alloc _,by decide,by simp [Value.ownBlock],by simp [Value.ownBlock]⟩,⟨?_,by decide,by simp [Value.ownBlock],by simp [Value.ownBlock]⟩,⟨(Box.made w2 _).alloc _,by decide,by simp [Value.ownBlock],by simp [Value.ownBlock]⟩,(((unhide HM1).kept hb2).alloc _).alloc _,gr_trans (gr_trans hb0 (gr_alloc _ _)) (gr_alloc _ _),fun u hu => by cases hu⟩
  ·have := Led.new (w2.alloc (.cells #[.slice (some ⟨g,0,none⟩) n c] 24)) w.heap.size (by simp; omega)
   simpa using this
  ·have h1 := heap_alloc_new w1 (.cells #[.bool q,.slice A1 N1 C1,.int .i64 y] 26)
   have h2 := (hb2.block w1.heap.size (by simp)).trans h1
   have h3 := (gr_alloc w2 (.cells #[.slice (some ⟨g,0,none⟩) n c] 24)).block w1.heap.size (block_lt h2)
   have h4 := (gr_alloc (w2.alloc (.cells #[.slice (some ⟨g,0,none⟩) n c] 24)) (.cells #[.slice none 0 0,.slice none 0 0,.bool false] 34)).block w1.heap.size (block_lt (h3.trans h2))
   exact (h4.trans h3).trans h2
 have HS := hide hS0
 have hx : W.cell? ⟨w2.heap.size,0,none⟩ = some (.slice (some ⟨g,0,none⟩) n c) := hS0.bx.cell 0
 clear hlt hb2 hb0 hS0 HLN HXA HM1 HB1
 go_wp2_with fail
 refine (unhide HP _ _ _ (unhide HS).lt.lim (by have := (unhide HS).lt.room; omega) (unhide HS).lt.room.2 ((unhide HT).kept (unhide HS).bel)).mono ?_
 rintro e w3 ⟨⟨A3,N3,C3,rfl,hm3⟩,hb3⟩
 have HF3 := hide (hm3.fresh (unhide HS).led)
 have HG3 := hide ((unhide HS).far hm3)
 have HM3 := hide ((hm3.mono (base' := w.heap.size) (unhide HS).bel.size).alloc (.cells #[.bool q,.slice A3 N3 C3,.int .i64 y] 26))
 have HS3 := hide (((unhide HS).kept hb3).alloc (.cells #[.bool q,.slice A3 N3 C3,.int .i64 y] 26))
 have hd0 : (w3.alloc (.cells #[.bool q,.slice A3 N3 C3,.int .i64 y] 26)).cell? ⟨w1.heap.size,0,none⟩ = some (.bool q) := (unhide HS3).bd.cell 0
 have hd1 : (w3.alloc (.cells #[.bool q,.slice A3 N3 C3,.int .i64 y] 26)).cell? ⟨w1.heap.size,1,none⟩ = some (.slice A1 N1 C1) := (unhide HS3).bd.cell 1
 have hd2 : (w3.alloc (.cells #[.bool q,.slice A3 N3 C3,.int .i64 y] 26)).cell? ⟨w1.heap.size,2,none⟩ = some (.int .i64 y) := (unhide HS3).bd.cell 2
 clear hm3 hb3 HS hx
 go_wp2_with fail
 refine (led_dyadic _ w.heap.size 0 _ _ _ _ q A3 A1 N3 N1 C3 C1 v y er _ (unhide HS3).led (unhide HM3) (unhide HF3) (unhide HS3).mw (unhide HS3).bel.size (by omega)).mono ?_
 rintro e w4 ⟨rfl,vg1,vw1,hL1,hA1⟩
 have HS := hide ((unhide HS3).added hL1 hA1 (unhide HG3))
 have hx : w4.cell? ⟨w2.heap.size,0,none⟩ = some (.slice (some ⟨g,0,none⟩) n c) := (unhide HS).bx.cell 0
 clear hL1 hA1 HS3 HM3 HF3 HG3 hd0 hd1 hd2
 go_wp2_with fail
 refine (unhide HP _ _ _ (unhide HS).lt.lim (by have := (unhide HS).lt.room; omega) (unhide HS).lt.room.2 ((unhide HT).kept (unhide HS).bel)).mono ?_
 rintro e w5 ⟨⟨A5,N5,C5,rfl,hm5⟩,hb5⟩
 have HF5 := hide (hm5.fresh (unhide HS).led)
 have HG5 := hide ((unhide HS).far hm5)
 have HM5 := hide ((hm5.mono (base' := w.heap.size) (unhide HS).bel.size).alloc (.cells #[.bool q,.slice A5 N5 C5,.int .i64 y] 26))
 have HS5 := hide (((unhide HS).kept hb5).alloc (.cells #[.bool q,.slice A5 N5 C5,.int .i64 y] 26))
 have hd0 : (w5.alloc (.cells #[.bool q,.slice A5 N5 C5,.int .i64 y] 26)).cell? ⟨w1.heap.size,0,none⟩ = some (.bool q) := (unhide HS5).bd.cell 0
 have hd1 : (w5.alloc (.cells #[.bool q,.slice A5 N5 C5,.int .i64 y] 26)).cell? ⟨w1.heap.size,1,none⟩ = some (.slice A1 N1 C1) := (unhide HS5).bd.cell 1
 have hd2 : (w5.alloc (.cells #[.bool q,.slice A5 N5 C5,.int .i64 y] 26)).cell? ⟨w1.heap.size,2,none⟩ = some (.int .i64 y) := (unhide HS5).bd.cell 2
 clear hm5 hb5 HS hx
 go_wp2_with fail
 refine (led_dyadic _ w.heap.size 1 _ _ _ _ q A5 A1 N5 N1 C5 C1 v y er _ (unhide HS5).led (unhide HM5) (unhide HF5) (unhide HS5).mw (unhide HS5).bel.size (by omega)).mono ?_
 rintro e w6 ⟨rfl,vg2,vw2,hL2,hA2⟩
 have HS := hide ((unhide HS5).added hL2 hA2 (unhide HG5))
 have hx : w6.cell? ⟨w2.heap.size,0,none⟩ = some (.slice (some ⟨g,0,none⟩) n c) := (unhide HS).bx.cell 0
 have hy2 : w6.cell? ⟨w.heap.size,0,none⟩ = some (.slice a n ca) := (unhide HS).ba.cell 0
 clear hL2 hA2 HS5 HM5 HF5 HG5 hd0 hd1 hd2
 go_wp2_with fail
 refine (kept_any g c n ca a xs _ w.heap.size (unhide HS).lt hb hw ((unhide HL).below (unhide HS).bel)).mono ?_
 rintro e w7 ⟨rfl,hb7⟩
 have HS7 := hide ((unhide HS).kept hb7)
 have hx7 : w7.cell? ⟨w2.heap.size,0,none⟩ = some (.slice (some ⟨g,0,none⟩) n c) := (unhide HS7).bx.cell 0
 clear hb7 HS hx hy2
 go_wp2_with fail
 have hS8 := (unhide HS7).alloc (.cells #[.slice (some ⟨g,0,none⟩) n c] 24)
 have hE := hS8.led.ent.snoc hS8.lt.short (by rw [hS8.lt.len]; exact hb) hS8.ap
 refine (led_stands _ w.heap.size 2 1 w7.heap.size 1 _ _ _ _ [.slice (some ⟨g,0,none⟩) n c] _ hS8.led hE rfl (by simp) (fun j u hj => ?_) hS8.bel.size (by omega) (by omega)).mono ?_
 ·match j,hj with
  | 0,hj => simp at hj; subst hj; exact (Box.made w7 _).cell
  | j + 1,hj => simp at hj
 ·rintro e w9 ⟨rfl,hb9⟩
  have HB9 := hide (hS8.bel.trans hb9)
  clear hb9 hS8 hE HS7 hx7
  go_wp2
  go_ret
  exact ⟨rfl,unhide HB9⟩
end Go.Proofs.YtecmcjlgknfnlaaDoor
