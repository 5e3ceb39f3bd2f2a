/- Of what RFieldRow stands on: RWork RState RDiv ROver RCmp RReg RFrac RChain RDist RBelow. -/
import Derived.Test.YtaiphahgjjjpbaaPan
import Derived.Test.YtaiphahgjjjpbaaPag
import Derived.Test.YtaiphahgjjjpbaaPaj
import Derived.Test.YtaiphahgjjjpbaaPao
import Derived.Test.YtaiphahgjjjpbaaPah
import Derived.Test.YtaiphahgjjjpbaaPap
import Derived.Test.YtaiphahgjjjpbaaPam
namespace Go.Proofs.Ytaiphahgjjjpbaa
open Go.RowKit
theorem But.trans {p : Nat} {a b c : World} (h : But p a b) (k : But p b c) : But p a c :=
 ⟨k.os.trans h.os,k.tape.trans h.tape,k.output.trans h.output,Nat.le_trans h.size k.size,fun i hi hp => (k.block i (Nat.lt_of_lt_of_le hi h.size) hp).trans (h.block i hi hp)⟩
theorem But.set {p : Nat} {w w' : World} (h : But p w w') (j : Nat) (u : Value) : But p w (w'.setCell ⟨p,j,none⟩ u) :=
 ⟨h.os,h.tape,h.output,by simpa [World.setCell] using h.size,fun k hk hp => (heap_setCell_other w' _ k u hp).trans (h.block k hk hp)⟩
theorem But.drew {p : Nat} {w w' : World} (h : But p w w') : But p w w'.drew := ⟨h.os,h.tape,h.output,h.size,h.block⟩
theorem But.gr {p B : Nat} {a w w' : World} (h : Below B a w) (k : But p w w') (hp : B ≤ p) (hB : B ≤ w.heap.size) : Below B a w' :=
 h.trans ⟨k.os,k.tape,k.output,k.size,fun i hi => k.block i (by omega) (by omega)⟩
def Wk (w : World) (p : Nat) (e : Int) : Prop := w.heap[p]? = some (.cells #[.int .i64 e] 59 (0,0))
theorem Wk.lt {w : World} {p : Nat} {e : Int} (h : Wk w p e) : p < w.heap.size := by
 by_cases hlt : p < w.heap.size
 ·exact hlt
 ·unfold Wk at h; rw [Array.getElem?_eq_none (by omega)] at h; cases h
theorem Wk.cell {w : World} {p : Nat} {e : Int} (h : Wk w p e) : w.cell? ⟨p,0,none⟩ = some (.int .i64 e) := by rw [cell_of_row w p 0 _ _ _ h]; rfl
theorem Wk.frozen {w : World} {p : Nat} {e : Int} (h : Wk w p e) : w.frozen? ⟨p,0,none⟩ = false := frozen_of_row w p 0 _ _ h
theorem Wk.kept {w w' : World} {p : Nat} {e : Int} (h : Wk w p e) (hb : Below w.heap.size w w') : Wk w' p e := by
 unfold Wk; rw [hb.block p h.lt]; exact h
theorem Wk.alloc {w : World} {p : Nat} {e : Int} (h : Wk w p e) (o : Obj) : Wk (w.alloc o) p e := h.kept (gr_alloc _ _)
theorem Wk.set {w : World} {p : Nat} {e : Int} (h : Wk w p e) (u : Int) : Wk (w.setCell ⟨p,0,none⟩ (.int .i64 u)) p u := by
 unfold Wk; rw [heap_setCell_same w p 0 _ _ _ h]; rfl
theorem Wk.other {w : World} {p : Nat} {e : Int} (h : Wk w p e) {q : Addr} (hne : p ≠ q.block) (u : Value) : Wk (w.setCell q u) p e := by
 unfold Wk; rw [heap_setCell_other w q p u hne]; exact h
theorem Wk.made (w : World) (e : Int) : Wk (w.alloc (.cells #[.int .i64 e] 59)) w.heap.size e := heap_alloc_new w _
theorem Wk.drew {w : World} {p : Nat} {e : Int} (h : Wk w p e) : Wk w.drew p e := h
theorem Lim.but {w w' : World} {p : Nat} {e : Int} {a : Option Addr} {xs : List Nat} (h : Lim w a xs) (hk : Wk w p e) (hb : But p w w') : Lim w' a xs := by
 rcases h.parts with h | ⟨hp,b,off,ha,hlt,hc⟩
 ·exact Or.inl h
 ·have hne : b ≠ p := by
   rintro rfl
   have h0 := hc 0 hp
   rw [cell_of_row w b (off + 0) _ _ _ hk] at h0
   by_cases hz : off + 0 = 0
   ·rw [hz] at h0; simp at h0
   ·rw [Array.getElem?_eq_none (by simp; omega)] at h0; cases h0
  refine Or.inr ⟨b,off,ha,fun j hj => ?_⟩
  rw [World.cell?_of_block (w := w) (hb.block b hlt hne)]
  exact hc j hj
theorem Num.but {w w' : World} {p : Nat} {e : Int} {a : Option Addr} {n m : Nat} (h : Num w a n m) (hk : Wk w p e) (hb : But p w w') : Num w' a n m := by
 obtain ⟨xs,hn,hl,r⟩ := h
 exact ⟨xs,hn,hl.but hk hb,r⟩
theorem Own.but {w w' : World} {base p : Nat} {e : Int} {v : Value} {xs : List Nat} (h : Own w base v xs) (hk : Wk w p e) (hb : But p w w') : Own w' base v xs := by
 rcases h with h | ⟨g,cap,cur,rfl,hg,hh,r⟩
 ·exact Or.inl h
 ·have hlt : g < w.heap.size := by
   by_cases hlt : g < w.heap.size
   ·exact hlt
   ·rw [Array.getElem?_eq_none (by omega)] at hh; cases hh
  have hne : g ≠ p := by
   rintro rfl
   unfold Wk at hk
   rw [hh] at hk
   simp at hk
  exact Or.inr ⟨g,cap,cur,rfl,hg,by rw [hb.block g hlt hne]; exact hh,r⟩
theorem Mine.but {w w' : World} {base p : Nat} {e : Int} {a : Option Addr} {n cap m : Nat} (h : Mine w base a n cap m) (hk : Wk w p e) (hb : But p w w') : Mine w' base a n cap m := by
 obtain ⟨xs,hn,ho,r⟩ := h
 exact ⟨xs,hn,ho.but hk hb,r⟩
theorem Box.butp {w w' : World} {q p : Nat} {v : Value} (h : Box w q v) (hb : But p w w') (hne : q ≠ p) : Box w' q v := by
 unfold Box; rw [hb.block q h.lt hne]; exact h
def Kp (e0 e : Int) : Int := if e0 = 0 then e else e0
theorem Kp.ok {e0 e : Int} (h : Kp e0 e = 0) : e0 = 0 ∧ e = 0 := by
 unfold Kp at h; split at h
 ·exact ⟨‹_›,h⟩
 ·exact absurd h ‹_›
theorem Kp.zero (e : Int) : Kp 0 e = e := by simp [Kp]
theorem Kp.same (e0 : Int) : Kp e0 0 = e0 := by unfold Kp; split <;> simp_all
set_option maxHeartbeats 400000 in
theorem keep_any (p : Nat) (e0 e : Int) (w : World) (hk : Wk w p e0) :
  Calls Try.prog 54 #[.pointer (some ⟨p,0,none⟩),.int .i64 e] w fun en w' => en = .returned (.tuple #[]) ∧ Wk w' p (Kp e0 e) ∧ But p w w' := by
 have hc := hk.cell
 have hf := hk.frozen
 by_cases h0 : e0 = 0
 ·subst h0
  go_enter Try.func54,Try.ntmps54
  go_wp2
  go_end0
  exact ⟨rfl,by rw [Kp.zero]; exact hk.set e,(But.refl p w).set 0 _⟩
 ·have hb0 : (e0 == 0) = false := by simp [h0]
  have H0 := hide h0
  clear h0
  go_enter Try.func54,Try.ntmps54
  go_wp2
  go_end0
  exact ⟨rfl,by rw [Kp,if_neg (unhide H0)]; exact hk,But.refl p w⟩
def Stp (e : Int) (M X : Nat) : Prop := (e = 0 ∧ M = X) ∨ (e = 4 ∧ Over X)
def WAns (p : Nat) (e0 : Int) (w : World) (R : Int → Nat → Prop) (en : Ending) (w' : World) : Prop :=
 ∃ a n c M e,en = .returned (.agg #[.slice a n c]) ∧ Mine w' w.heap.size a n c M ∧ R e M ∧ Wk w' p (Kp e0 e) ∧ But p w w'
theorem ans_step {w : World} {base : Nat} {e : Ending} {X : Nat} (h : Ans w base e X) : ∃ a n c M er,e = .returned (.tuple #[.agg #[.slice a n c],.int .i64 er]) ∧ Mine w base a n c M ∧ Stp er M X := by
 rcases h with ⟨a,n,c,rfl,h⟩ | ⟨rfl,h⟩
 ·exact ⟨a,n,c,X,0,rfl,h,Or.inl ⟨rfl,rfl⟩⟩
 ·exact ⟨none,0,0,0,4,rfl,mine_nil w base,Or.inr ⟨rfl,h⟩⟩
theorem gcd_step {w : World} {base : Nat} {e : Ending} {g : Nat} (h : ∃ a1 n1 c1,e = .returned (.tuple #[.agg #[.slice a1 n1 c1],.int .i64 0]) ∧ Mine w base a1 n1 c1 g) : ∃ a n c M er,e = .returned (.tuple #[.agg #[.slice a n c],.int .i64 er]) ∧ Mine w base a n c M ∧ (er = 0 ∧ M = g) := by
 obtain ⟨a,n,c,rfl,h⟩ := h
 exact ⟨a,n,c,g,0,rfl,h,rfl,rfl⟩
theorem sub_step {w : World} {base : Nat} {e : Ending} {m m' : Nat} (h : SubAns w base e m m') : ∃ a n c M er,e = .returned (.tuple #[.agg #[.slice a n c],.bool er,.int .i64 0]) ∧ Mine w base a n c M ∧ ((0 : Int) = 0 ∧ M = m - m') := by
 rcases h with ⟨hl,rfl⟩ | ⟨hl,a,n,c,rfl,h⟩
 ·exact ⟨none,0,0,0,false,rfl,mine_nil w base,rfl,by omega⟩
 ·exact ⟨a,n,c,m - m',true,rfl,h,rfl,rfl⟩
set_option maxHeartbeats 400000 in
theorem wadd_any (p : Nat) (e0 : Int) (a a' : Option Addr) (n n' cap cap' m m' : Nat) (w : World) (hk : Wk w p e0) (h : Num w a n m) (h' : Num w a' n' m') :
  Calls Try.prog 33 #[.pointer (some ⟨p,0,none⟩),.agg #[.slice a n cap],.agg #[.slice a' n' cap']] w (WAns p e0 w fun e M => Stp e M (m + m')) := by
 go_enter Try.func33,Try.ntmps33
 go_wp2_with fail
 refine (add_any a a' n n' cap cap' m m' _ (((h.alloc _).alloc _).alloc _) (((h'.alloc _).alloc _).alloc _)).mono ?_
 rintro en w1 ⟨hans,hb1⟩
 obtain ⟨a1,n1,c1,M,er,rfl,hm1,hst⟩ := ans_step hans
 have HB := gr_trans (gr_trans (gr_trans (gr_alloc w (.cells #[.slice a n cap] 27)) (gr_alloc _ (.cells #[.slice a' n' cap'] 27))) (gr_alloc _ (.cells #[.slice none 0 0] 27))) hb1
 have hsz := HB.size
 have hk1 := (hk.kept HB).alloc (.cells #[.slice a1 n1 c1] 27)
 have hbx := Box.made w1 (.slice a1 n1 c1)
 have hbr := (((Box.made ((w.alloc (.cells #[.slice a n cap] 27)).alloc (.cells #[.slice a' n' cap'] 27)) (.slice none 0 0)).kept hb1).alloc (.cells #[.slice a1 n1 c1] 27))
 simp only [World.size_alloc] at hbr
 have HB2 := hide (gr_trans HB (gr_alloc _ (.cells #[.slice a1 n1 c1] 27)))
 have HM := hide ((hm1.mono (show w.heap.size ≤ _ by simp only [World.size_alloc]; omega)).alloc (.cells #[.slice a1 n1 c1] 27))
 have hpl := hk.lt
 have HST := hide hst
 clear hans hm1 HB hb1 hst
 go_wp2_with fail
 refine (keep_any p e0 er _ hk1).mono ?_
 rintro en w2 ⟨rfl,hk2,hbt⟩
 have hbx2 := hbx.butp hbt (by omega)
 have hcx := hbx2.cell
 have hbr2 := hbr.butp hbt (by omega)
 have hcr := hbr2.cell
 have hfr := hbr2.frozen
 go_wp2
 have HF := (But.of (R := p) (unhide HB2)).trans hbt
 exact bodyPost_ret (v := .agg #[.slice a1 n1 c1]) (by simp [results,Try.results33,go_sem,hcr]) rfl ⟨a1,n1,c1,M,er,rfl,((unhide HM).but hk1 hbt).setBox hbr2 _,unhide HST,hk2.other (q := ⟨w.heap.size + 1 + 1,0,none⟩) (show p ≠ w.heap.size + 1 + 1 by omega) _,HF.setCell (show w.heap.size ≤ w.heap.size + 1 + 1 by omega) _⟩
set_option maxHeartbeats 400000 in
theorem wmul_any (p : Nat) (e0 : Int) (a a' : Option Addr) (n n' cap cap' m m' : Nat) (w : World) (hk : Wk w p e0) (h : Num w a n m) (h' : Num w a' n' m') :
  Calls Try.prog 47 #[.pointer (some ⟨p,0,none⟩),.agg #[.slice a n cap],.agg #[.slice a' n' cap']] w (WAns p e0 w fun e M => Stp e M (m * m')) := by
 go_enter Try.func47,Try.ntmps47
 go_wp2_with fail
 refine (mul_any a a' n n' cap cap' m m' _ (((h.alloc _).alloc _).alloc _) (((h'.alloc _).alloc _).alloc _)).mono ?_
 rintro en w1 ⟨hans,hb1⟩
 obtain ⟨a1,n1,c1,M,er,rfl,hm1,hst⟩ := ans_step hans
 have HB := gr_trans (gr_trans (gr_trans (gr_alloc w (.cells #[.slice a n cap] 27)) (gr_alloc _ (.cells #[.slice a' n' cap'] 27))) (gr_alloc _ (.cells #[.slice none 0 0] 27))) hb1
 have hsz := HB.size
 have hk1 := (hk.kept HB).alloc (.cells #[.slice a1 n1 c1] 27)
 have hbx := Box.made w1 (.slice a1 n1 c1)
 have hbr := (((Box.made ((w.alloc (.cells #[.slice a n cap] 27)).alloc (.cells #[.slice a' n' cap'] 27)) (.slice none 0 0)).kept hb1).alloc (.cells #[.slice a1 n1 c1] 27))
 simp only [World.size_alloc] at hbr
 have HB2 := hide (gr_trans HB (gr_alloc _ (.cells #[.slice a1 n1 c1] 27)))
 have HM := hide ((hm1.mono (show w.heap.size ≤ _ by simp only [World.size_alloc]; omega)).alloc (.cells #[.slice a1 n1 c1] 27))
 have hpl := hk.lt
 have HST := hide hst
 clear hans hm1 HB hb1 hst
 go_wp2_with fail
 refine (keep_any p e0 er _ hk1).mono ?_
 rintro en w2 ⟨rfl,hk2,hbt⟩
 have hbx2 := hbx.butp hbt (by omega)
 have hcx := hbx2.cell
 have hbr2 := hbr.butp hbt (by omega)
 have hcr := hbr2.cell
 have hfr := hbr2.frozen
 go_wp2
 have HF := (But.of (R := p) (unhide HB2)).trans hbt
 exact bodyPost_ret (v := .agg #[.slice a1 n1 c1]) (by simp [results,Try.results47,go_sem,hcr]) rfl ⟨a1,n1,c1,M,er,rfl,((unhide HM).but hk1 hbt).setBox hbr2 _,unhide HST,hk2.other (q := ⟨w.heap.size + 1 + 1,0,none⟩) (show p ≠ w.heap.size + 1 + 1 by omega) _,HF.setCell (show w.heap.size ≤ w.heap.size + 1 + 1 by omega) _⟩
set_option maxHeartbeats 400000 in
theorem wgcd_any (p : Nat) (e0 : Int) (a a' : Option Addr) (n n' cap cap' m m' : Nat) (w : World) (hk : Wk w p e0) (h : Num w a n m) (h' : Num w a' n' m') :
  Calls Try.prog 36 #[.pointer (some ⟨p,0,none⟩),.agg #[.slice a n cap],.agg #[.slice a' n' cap']] w (WAns p e0 w fun e M => e = 0 ∧ M = Nat.gcd m m') := by
 go_enter Try.func36,Try.ntmps36
 go_wp2_with fail
 refine (gcd_any a a' n n' cap cap' m m' _ (((h.alloc _).alloc _).alloc _) (((h'.alloc _).alloc _).alloc _)).mono ?_
 rintro en w1 ⟨hans,hb1⟩
 obtain ⟨a1,n1,c1,M,er,rfl,hm1,hst⟩ := gcd_step hans
 have HB := gr_trans (gr_trans (gr_trans (gr_alloc w (.cells #[.slice a n cap] 27)) (gr_alloc _ (.cells #[.slice a' n' cap'] 27))) (gr_alloc _ (.cells #[.slice none 0 0] 27))) hb1
 have hsz := HB.size
 have hk1 := (hk.kept HB).alloc (.cells #[.slice a1 n1 c1] 27)
 have hbx := Box.made w1 (.slice a1 n1 c1)
 have hbr := (((Box.made ((w.alloc (.cells #[.slice a n cap] 27)).alloc (.cells #[.slice a' n' cap'] 27)) (.slice none 0 0)).kept hb1).alloc (.cells #[.slice a1 n1 c1] 27))
 simp only [World.size_alloc] at hbr
 have HB2 := hide (gr_trans HB (gr_alloc _ (.cells #[.slice a1 n1 c1] 27)))
 have HM := hide ((hm1.mono (show w.heap.size ≤ _ by simp only [World.size_alloc]; omega)).alloc (.cells #[.slice a1 n1 c1] 27))
 have hpl := hk.lt
 have HST := hide hst
 clear hans hm1 HB hb1 hst
 go_wp2_with fail
 refine (keep_any p e0 er _ hk1).mono ?_
 rintro en w2 ⟨rfl,hk2,hbt⟩
 have hbx2 := hbx.butp hbt (by omega)
 have hcx := hbx2.cell
 have hbr2 := hbr.butp hbt (by omega)
 have hcr := hbr2.cell
 have hfr := hbr2.frozen
 go_wp2
 have HF := (But.of (R := p) (unhide HB2)).trans hbt
 exact bodyPost_ret (v := .agg #[.slice a1 n1 c1]) (by simp [results,Try.results36,go_sem,hcr]) rfl ⟨a1,n1,c1,M,er,rfl,((unhide HM).but hk1 hbt).setBox hbr2 _,unhide HST,hk2.other (q := ⟨w.heap.size + 1 + 1,0,none⟩) (show p ≠ w.heap.size + 1 + 1 by omega) _,HF.setCell (show w.heap.size ≤ w.heap.size + 1 + 1 by omega) _⟩
set_option maxHeartbeats 400000 in
theorem wsub_any (p : Nat) (e0 : Int) (a a' : Option Addr) (n n' cap cap' m m' : Nat) (w : World) (hk : Wk w p e0) (h : Num w a n m) (h' : Num w a' n' m') :
  Calls Try.prog 71 #[.pointer (some ⟨p,0,none⟩),.agg #[.slice a n cap],.agg #[.slice a' n' cap']] w (WAns p e0 w fun e M => e = 0 ∧ M = m - m') := by
 go_enter Try.func71,Try.ntmps71
 go_wp2_with fail
 refine (sub_any a a' n n' cap cap' m m' _ (((h.alloc _).alloc _).alloc _) (((h'.alloc _).alloc _).alloc _)).mono ?_
 rintro en w1 ⟨hans,hb1⟩
 obtain ⟨a1,n1,c1,M,er,rfl,hm1,hst⟩ := sub_step hans
 have HB := gr_trans (gr_trans (gr_trans (gr_alloc w (.cells #[.slice a n cap] 27)) (gr_alloc _ (.cells #[.slice a' n' cap'] 27))) (gr_alloc _ (.cells #[.slice none 0 0] 27))) hb1
 have hsz := HB.size
 have hk1 := (hk.kept HB).alloc (.cells #[.slice a1 n1 c1] 27)
 have hbx := Box.made w1 (.slice a1 n1 c1)
 have hbr := (((Box.made ((w.alloc (.cells #[.slice a n cap] 27)).alloc (.cells #[.slice a' n' cap'] 27)) (.slice none 0 0)).kept hb1).alloc (.cells #[.slice a1 n1 c1] 27))
 simp only [World.size_alloc] at hbr
 have HB2 := hide (gr_trans HB (gr_alloc _ (.cells #[.slice a1 n1 c1] 27)))
 have HM := hide ((hm1.mono (show w.heap.size ≤ _ by simp only [World.size_alloc]; omega)).alloc (.cells #[.slice a1 n1 c1] 27))
 have hpl := hk.lt
 have HST := hide hst
 clear hans hm1 HB hb1 hst
 go_wp2_with fail
 refine (keep_any p e0 0 _ hk1).mono ?_
 rintro en w2 ⟨rfl,hk2,hbt⟩
 have hbx2 := hbx.butp hbt (by omega)
 have hcx := hbx2.cell
 have hbr2 := hbr.butp hbt (by omega)
 have hcr := hbr2.cell
 have hfr := hbr2.frozen
 go_wp2
 have HF := (But.of (R := p) (unhide HB2)).trans hbt
 exact bodyPost_ret (v := .agg #[.slice a1 n1 c1]) (by simp [results,Try.results71,go_sem,hcr]) rfl ⟨a1,n1,c1,M,0,rfl,((unhide HM).but hk1 hbt).setBox hbr2 _,⟨rfl,(unhide HST).2⟩,hk2.other (q := ⟨w.heap.size + 1 + 1,0,none⟩) (show p ≠ w.heap.size + 1 + 1 by omega) _,HF.setCell (show w.heap.size ≤ w.heap.size + 1 + 1 by omega) _⟩
def DStp (e : Int) (Q R m d : Nat) : Prop := (d = 0 ∧ e = 11 ∧ Q = 0 ∧ R = 0) ∨ (0 < d ∧ e = 0 ∧ Q = m / d ∧ R = m % d)
theorem wdiv_step {w : World} {base : Nat} {en : Ending} {m d : Nat} (h : DivAns w base en m d) : ∃ aq nq cq ar nr cr Q R e,en = .returned (.tuple #[.agg #[.slice aq nq cq],.agg #[.slice ar nr cr],.int .i64 e]) ∧ Mine w base aq nq cq Q ∧ Mine w base ar nr cr R ∧ DStp e Q R m d := by
 rcases h with ⟨hd,rfl⟩ | ⟨hd,aq,nq,cq,ar,nr,cr,rfl,h1,h2⟩
 ·exact ⟨none,0,0,none,0,0,0,0,11,rfl,mine_nil w base,mine_nil w base,Or.inl ⟨hd,rfl,rfl,rfl⟩⟩
 ·exact ⟨aq,nq,cq,ar,nr,cr,_,_,0,rfl,h1,h2,Or.inr ⟨hd,rfl,rfl,rfl⟩⟩
def WAns2 (p : Nat) (e0 : Int) (w : World) (R : Int → Nat → Nat → Prop) (en : Ending) (w' : World) : Prop :=
 ∃ a n c a' n' c' M M' e,en = .returned (.tuple #[.agg #[.slice a n c],.agg #[.slice a' n' c']]) ∧ Mine w' w.heap.size a n c M ∧ Mine w' w.heap.size a' n' c' M' ∧ R e M M' ∧ Wk w' p (Kp e0 e) ∧ But p w w'
end Go.Proofs.Ytaiphahgjjjpbaa
namespace Go.Proofs.Ytaiphahgjjjpbaa
open Go.RowKit
def NoLimb (l : List Value) : Prop := ∀ v,v ∈ l → ∀ z,v ≠ .int .u32 z
def noLimb : List Value → Bool
 | [] => true
 | .int .u32 _ :: _ => false
 | _ :: r => noLimb r
theorem noLimb_of : ∀ (l : List Value),noLimb l = true → NoLimb l
 | [],_ => fun _ h => nomatch h
 | v :: r,h => by
  have hr : noLimb r = true ∧ ∀ z,v ≠ .int .u32 z := by
   unfold noLimb at h
   split at h
   ·rename_i e; cases e
   ·cases h
   ·rename_i x y hx hy
    injection hy with e1 e2
    subst e1; subst e2
    exact ⟨h,fun z e => hx z e⟩
  intro u hu z
  rcases List.mem_cons.1 hu with rfl | hu
  ·exact hr.2 z
  ·exact noLimb_of r hr.1 u hu z
def FrO (k : Option (Nat × Int)) (w W : World) : Prop := match k with
 | none => Below w.heap.size w W
 | some (p,_) => But p w W
def WkO (k : Option (Nat × Int)) (W : World) : Prop := match k with
 | none => True
 | some (p,e) => Wk W p e
def NeO (k : Option (Nat × Int)) (b : Nat) : Prop := match k with
 | none => True
 | some (p,_) => b ≠ p
structure Rs (w0 W : World) (k : Option (Nat × Int)) (bs : List En) (ms : List (Option Addr × Nat × Nat)) (os : List (Option Addr × Nat × Nat × Nat)) : Prop where
 wk : WkO k W
 bx : ∀ x,x ∈ bs → W.heap[x.b]? = some (.cells x.cs x.t (0,0)) ∧ NeO k x.b ∧ x.t ≠ 42 ∧ NoLimb x.cs.toList
 nm : ∀ x,x ∈ ms → Num W x.1 x.2.1 x.2.2
 ow : ∀ x,x ∈ os → Mine W w0.heap.size x.1 x.2.1 x.2.2.1 x.2.2.2
 fr : FrO k w0 W
theorem Rs.size {w0 W : World} {k : Option (Nat × Int)} {bs : List En} {ms : List (Option Addr × Nat × Nat)} {os : List (Option Addr × Nat × Nat × Nat)} (h : Rs w0 W k bs ms os) : w0.heap.size ≤ W.heap.size := by
 have := h.fr
 match k,this with
 | none,h => exact h.size
 | some (_,_),h => exact h.size
theorem Rs.begin (w : World) : Rs w w none [] [] [] := ⟨trivial,(fun _ h => nomatch h),(fun _ h => nomatch h),(fun _ h => nomatch h),Below.refl _ _⟩
theorem Rs.begin_work {w : World} {p : Nat} {e : Int} (h : Wk w p e) : Rs w w (some (p,e)) [] [] [] := ⟨h,(fun _ h => nomatch h),(fun _ h => nomatch h),(fun _ h => nomatch h),But.refl _ _⟩
theorem Rs.kept {w0 W W' : World} {k : Option (Nat × Int)} {bs : List En} {ms : List (Option Addr × Nat × Nat)} {os : List (Option Addr × Nat × Nat × Nat)} (h : Rs w0 W k bs ms os) (hb : Below W.heap.size W W') : Rs w0 W' k bs ms os := by
 have hs := h.size
 refine ⟨?_,fun x hx => ?_,fun x hx => (h.nm x hx).kept hb,fun x hx => (h.ow x hx).kept hb,?_⟩
 ·have := h.wk
  match k,this with
  | none,_ => trivial
  | some (_,_),h => exact Wk.kept h hb
 ·obtain ⟨h1,h2⟩ := h.bx x hx
  exact ⟨by rw [hb.block _ (block_lt h1)]; exact h1,h2⟩
 ·have := h.fr
  match k,this with
  | none,h => exact gr_trans h hb
  | some (_,_),h => exact But.trans h (But.of hb)
theorem Rs.call {w0 W W' : World} {p : Nat} {e e' : Int} {bs : List En} {ms : List (Option Addr × Nat × Nat)} {os : List (Option Addr × Nat × Nat × Nat)} (h : Rs w0 W (some (p,e)) bs ms os) (hb : But p W W') (hk : Wk W' p e') : Rs w0 W' (some (p,e')) bs ms os := by
 have hk0 : Wk W p e := h.wk
 refine ⟨hk,fun x hx => ?_,fun x hx => (h.nm x hx).but hk0 hb,fun x hx => (h.ow x hx).but hk0 hb,But.trans h.fr hb⟩
 obtain ⟨h1,h2,h3⟩ := h.bx x hx
 exact ⟨by rw [hb.block _ (block_lt h1) h2]; exact h1,h2,h3⟩
theorem Rs.alloc {w0 W : World} {k : Option (Nat × Int)} {bs : List En} {ms : List (Option Addr × Nat × Nat)} {os : List (Option Addr × Nat × Nat × Nat)} (h : Rs w0 W k bs ms os) (cs : Array Value) (t : TypeId) (ht : t ≠ 42 := by decide) (hl : noLimb cs.toList = true := by rfl) : Rs w0 (W.alloc (.cells cs t)) k (⟨W.heap.size,cs,t⟩ :: bs) ms os := by
 have h' := h.kept (gr_alloc W (.cells cs t))
 refine ⟨h'.wk,fun x hx => ?_,h'.nm,h'.ow,h'.fr⟩
 rcases List.mem_cons.1 hx with rfl | hx
 ·refine ⟨heap_alloc_new W _,?_,ht,noLimb_of _ hl⟩
  have := h.wk
  match k,this with
  | none,_ => trivial
  | some (p,_),hk => exact fun e => by have := Wk.lt hk; simp only at e; omega
 ·exact h'.bx x hx
theorem Rs.work {w0 W : World} {bs : List En} {ms : List (Option Addr × Nat × Nat)} {os : List (Option Addr × Nat × Nat × Nat)} (h : Rs w0 W none bs ms os) : Rs w0 (W.alloc (.cells #[.int .i64 0] 59)) (some (W.heap.size,0)) bs ms os := by
 have h' := h.kept (gr_alloc W (.cells #[.int .i64 0] 59))
 refine ⟨Wk.made W 0,fun x hx => ?_,h'.nm,h'.ow,But.of h'.fr⟩
 obtain ⟨h1,h2,h3⟩ := h'.bx x hx
 have := block_lt (h.bx x hx).1
 exact ⟨h1,show x.b ≠ W.heap.size by omega,h3⟩
theorem Rs.num {w0 W : World} {k : Option (Nat × Int)} {bs : List En} {ms : List (Option Addr × Nat × Nat)} {os : List (Option Addr × Nat × Nat × Nat)} (h : Rs w0 W k bs ms os) {a : Option Addr} {n m : Nat} (hn : Num W a n m) : Rs w0 W k bs ((a,n,m) :: ms) os :=
 ⟨h.wk,h.bx,fun x hx => by rcases List.mem_cons.1 hx with rfl | hx; exact hn; exact h.nm x hx,h.ow,h.fr⟩
theorem Rs.own {w0 W : World} {k : Option (Nat × Int)} {bs : List En} {ms : List (Option Addr × Nat × Nat)} {os : List (Option Addr × Nat × Nat × Nat)} (h : Rs w0 W k bs ms os) {a : Option Addr} {n c m base : Nat} (hn : Mine W base a n c m) (hb : w0.heap.size ≤ base) : Rs w0 W k bs ms ((a,n,c,m) :: os) :=
 ⟨h.wk,h.bx,h.nm,fun x hx => by rcases List.mem_cons.1 hx with rfl | hx; exact hn.mono hb; exact h.ow x hx,h.fr⟩
theorem Rs.drew {w0 W : World} {k : Option (Nat × Int)} {bs : List En} {ms : List (Option Addr × Nat × Nat)} {os : List (Option Addr × Nat × Nat × Nat)} (h : Rs w0 W k bs ms os) : Rs w0 W.drew k bs ms os := by
 refine ⟨?_,h.bx,h.nm,h.ow,?_⟩
 ·have := h.wk
  match k,this with
  | none,_ => trivial
  | some (_,_),h => exact h
 ·have := h.fr
  match k,this with
  | none,h => exact Below.drew h
  | some (_,_),h => exact But.drew h
theorem Rs.cells {w0 W : World} {k : Option (Nat × Int)} {bs : List En} {ms : List (Option Addr × Nat × Nat)} {os : List (Option Addr × Nat × Nat × Nat)} (h : Rs w0 W k bs ms os) : Cel W bs := cel_of bs (fun x hx => (h.bx x hx).1)
theorem Rs.frozen {w0 W : World} {k : Option (Nat × Int)} {bs : List En} {ms : List (Option Addr × Nat × Nat)} {os : List (Option Addr × Nat × Nat × Nat)} (h : Rs w0 W k bs ms os) {x : En} (hx : x ∈ bs) (j : Nat) : W.frozen? ⟨x.b,j,none⟩ = false := frozen_of_row W x.b j _ _ (h.bx x hx).1
theorem Rs.cz {w0 W : World} {k : Option (Nat × Int)} {bs : List En} {ms : List (Option Addr × Nat × Nat)} {os : List (Option Addr × Nat × Nat × Nat)} (h : Rs w0 W k bs ms os) (x : En) (hx : x ∈ bs) : CelL W x.b 0 x.cs.toList ∧ ∀ j,W.frozen? ⟨x.b,j,none⟩ = false := ⟨celL_of (h.bx x hx).1 _ 0 rfl,fun j => h.frozen hx j⟩
theorem nb {p : Prop} (h : false = true) : p := Bool.noConfusion h
theorem Lim.put {W : World} {a : Option Addr} {xs : List Nat} (h : Lim W a xs) {b : Nat} {cs : Array Value} {t : TypeId} (hb : W.heap[b]? = some (.cells cs t (0,0))) (hl : NoLimb cs.toList) (j : Nat) (u : Value) : Lim (W.setCell ⟨b,j,none⟩ u) a xs := by
 rcases h.parts with h | ⟨hp,g,off,ha,hlt,hc⟩
 ·exact Or.inl h
 ·have hne : g ≠ b := by
   rintro rfl
   have h0 := hc 0 hp
   rw [cell_of_row W g (off + 0) _ _ _ hb] at h0
   have h1 : Value.int .u32 ((xs[0]?.getD 0 : Nat) : Int) ∈ cs.toList := by
    have := Array.mem_of_getElem? h0
    exact Array.mem_def.1 this
   exact hl _ h1 _ rfl
  refine Or.inr ⟨g,off,ha,fun j' hj => ?_⟩
  rw [World.cell?_of_block (w := W) (heap_setCell_other W _ g u hne)]
  exact hc j' hj
theorem Num.put {W : World} {a : Option Addr} {n m : Nat} (h : Num W a n m) {b : Nat} {cs : Array Value} {t : TypeId} (hb : W.heap[b]? = some (.cells cs t (0,0))) (hl : NoLimb cs.toList) (j : Nat) (u : Value) : Num (W.setCell ⟨b,j,none⟩ u) a n m := by
 obtain ⟨xs,hn,hl',r⟩ := h
 exact ⟨xs,hn,hl'.put hb hl j u,r⟩
theorem Mine.put {W : World} {base : Nat} {a : Option Addr} {n c m : Nat} (h : Mine W base a n c m) {b : Nat} {cs : Array Value} {t : TypeId} (hb : W.heap[b]? = some (.cells cs t (0,0))) (ht : t ≠ 42) (j : Nat) (u : Value) : Mine (W.setCell ⟨b,j,none⟩ u) base a n c m := by
 obtain ⟨xs,hn,ho,r⟩ := h
 refine ⟨xs,hn,?_,r⟩
 rcases ho with ho | ⟨g,cap,cur,e,hg,hh,q⟩
 ·exact Or.inl ho
 ·have hne : g ≠ b := by
   rintro rfl
   rw [hh] at hb
   injection hb with hb
   injection hb with _ hb
   exact ht hb.symm
  exact Or.inr ⟨g,cap,cur,e,hg,by rw [heap_setCell_other W _ g u hne]; exact hh,q⟩
theorem Rs.put {w0 W : World} {k : Option (Nat × Int)} {bs : List En} {ms : List (Option Addr × Nat × Nat)} {os : List (Option Addr × Nat × Nat × Nat)} (h : Rs w0 W k bs ms os) {x : En} (hx : x ∈ bs) (hw : w0.heap.size ≤ x.b) (j : Nat) (u : Value) (hu : ∀ z,u ≠ .int .u32 z) (bs' : List En)
  (hbs : ∀ y,y ∈ bs' → y = ⟨x.b,x.cs.setIfInBounds j u,x.t⟩ ∨ (y ∈ bs ∧ y.b ≠ x.b)) : Rs w0 (W.setCell ⟨x.b,j,none⟩ u) k bs' ms os := by
 obtain ⟨h1,h2,h3,h4⟩ := h.bx x hx
 refine ⟨?_,fun y hy => ?_,fun y hy => (h.nm y hy).put h1 h4 j u,fun y hy => (h.ow y hy).put h1 h3 j u,?_⟩
 ·have := h.wk
  match k,this,h2 with
  | none,_,_ => trivial
  | some (q,_),hk,h2 => exact Wk.other hk (show q ≠ x.b from Ne.symm (show x.b ≠ q from h2)) u
 ·rcases hbs y hy with rfl | ⟨hy,hne⟩
  ·refine ⟨heap_setCell_same W x.b j _ _ _ h1,h2,h3,?_⟩
   intro v hv z
   simp only [Array.toList_setIfInBounds] at hv
   rcases List.mem_or_eq_of_mem_set hv with hv | rfl
   ·exact h4 v hv z
   ·exact hu z
  ·obtain ⟨q1,q2⟩ := h.bx y hy
   exact ⟨by rw [heap_setCell_other W _ y.b u hne]; exact q1,q2⟩
 ·have := h.fr
  match k,this with
  | none,h => exact Below.setCell h hw u
  | some (_,_),h => exact But.setCell h hw u
end Go.Proofs.Ytaiphahgjjjpbaa
namespace Go.Proofs.Ytaiphahgjjjpbaa
open Go.RowKit
set_option maxHeartbeats 400000 in
theorem wdiv_any (p : Nat) (e0 : Int) (a a' : Option Addr) (n n' cap cap' m m' : Nat) (w : World) (hk : Wk w p e0) (h : Num w a n m) (h' : Num w a' n' m') :
  Calls Try.prog 31 #[.pointer (some ⟨p,0,none⟩),.agg #[.slice a n cap],.agg #[.slice a' n' cap']] w (WAns2 p e0 w fun e Q R => DStp e Q R m m') := by
 have hS := (((((Rs.begin_work hk).num h).num h').alloc #[.slice a n cap] 27).alloc #[.slice a' n' cap'] 27).alloc #[.slice none 0 0] 27 |>.alloc #[.slice none 0 0] 27
 simp only [World.size_alloc] at hS
 go_enter Try.func31,Try.ntmps31
 go_wp2_with fail
 refine (div_any a a' n n' cap cap' m m' _ (hS.nm (a,n,m) (by simp)) (hS.nm (a',n',m') (by simp))).mono ?_
 rintro en w1 ⟨hans,hb1⟩
 obtain ⟨aq,nq,cq,ar,nr,cr,Q,R,er,rfl,hq,hr,hst⟩ := wdiv_step hans
 have HST := hide hst
 have hS1 := ((hS.kept hb1).own hq hS.size).own hr hS.size
 clear hans hst hb1 hq hr hS hk h h'
 obtain ⟨⟨c1,-⟩,⟨c2,-⟩,-⟩ := hS1.cells
 have f1 := hS1.frozen (x := ⟨w.heap.size + 1 + 1,#[.slice none 0 0],27⟩) (by simp) 0
 have f2 := hS1.frozen (x := ⟨w.heap.size + 1 + 1 + 1,#[.slice none 0 0],27⟩) (by simp) 0
 go_wp2_with fail
 have hS2 := (hS1.put (x := ⟨w.heap.size + 1 + 1,#[.slice none 0 0],27⟩) (by simp) (by simp only []; omega) 0 (.slice aq nq cq) (by simp) [⟨w.heap.size + 1 + 1,#[.slice aq nq cq],27⟩,⟨w.heap.size + 1 + 1 + 1,#[.slice none 0 0],27⟩] (by simp)).put (x := ⟨w.heap.size + 1 + 1 + 1,#[.slice none 0 0],27⟩) (by simp) (by simp only []; omega) 0 (.slice ar nr cr) (by simp) [⟨w.heap.size + 1 + 1,#[.slice aq nq cq],27⟩,⟨w.heap.size + 1 + 1 + 1,#[.slice ar nr cr],27⟩] (by simp)
 refine (keep_any p e0 er _ hS2.wk).mono ?_
 rintro en w2 ⟨rfl,hk2,hbt⟩
 have hS3 := hS2.call hbt hk2
 clear hS1 hS2 hbt hk2 c1 c2 f1 f2
 obtain ⟨⟨c1,-⟩,⟨c2,-⟩,-⟩ := hS3.cells
 have f1 := hS3.frozen (x := ⟨w.heap.size + 1 + 1,#[.slice aq nq cq],27⟩) (by simp) 0
 have f2 := hS3.frozen (x := ⟨w.heap.size + 1 + 1 + 1,#[.slice ar nr cr],27⟩) (by simp) 0
 go_wp2
 go_region
 go_wp2
 have hS4 := ((hS3.put (x := ⟨w.heap.size + 1 + 1,#[.slice aq nq cq],27⟩) (by simp) (by simp only []; omega) 0 (.slice aq nq cq) (by simp) [⟨w.heap.size + 1 + 1 + 1,#[.slice ar nr cr],27⟩] (by simp)).put (x := ⟨w.heap.size + 1 + 1 + 1,#[.slice ar nr cr],27⟩) (by simp) (by simp only []; omega) 0 (.slice ar nr cr) (by simp) [] (by simp)).drew
 exact bodyPost_ret (v := .tuple #[.agg #[.slice aq nq cq],.agg #[.slice ar nr cr]]) (by simp [results,Try.results31,go_sem,c1,c2]) rfl ⟨aq,nq,cq,ar,nr,cr,Q,R,er,rfl,hS4.ow (aq,nq,cq,Q) (by simp),hS4.ow (ar,nr,cr,R) (by simp),unhide HST,hS4.wk,hS4.fr⟩
end Go.Proofs.Ytaiphahgjjjpbaa
namespace Go.Proofs.Ytaiphahgjjjpbaa
open Go.RowKit
set_option maxHeartbeats 400000 in
theorem wover_any (p : Nat) (e0 : Int) (a a' : Option Addr) (n n' cap cap' m m' : Nat) (w : World) (hk : Wk w p e0) (h : Num w a n m) (h' : Num w a' n' m') :
  Calls Try.prog 38 #[.pointer (some ⟨p,0,none⟩),.agg #[.slice a n cap],.agg #[.slice a' n' cap']] w (WAns p e0 w fun e Q => ∃ R,DStp e Q R m m') := by
 have hS := (((((Rs.begin_work hk).num h).num h').alloc #[.slice a n cap] 27).alloc #[.slice a' n' cap'] 27).alloc #[.slice none 0 0] 27
 simp only [World.size_alloc] at hS
 go_enter Try.func38,Try.ntmps38
 go_wp2_with fail
 refine (wdiv_any p e0 a a' n n' cap cap' m m' _ hS.wk (hS.nm (a,n,m) (by simp)) (hS.nm (a',n',m') (by simp))).mono ?_
 rintro en w1 ⟨aq,nq,cq,ar,nr,cr,Q,R,er,rfl,hq,hr,hst,hk1,hb1⟩
 have HST := hide hst
 have hS1 := ((((hS.call hb1 hk1).own hq hS.size).own hr hS.size).alloc #[.slice aq nq cq] 27).alloc #[.slice ar nr cr] 27
 clear hst hb1 hq hr hS hk h h'
 obtain ⟨⟨c0,-⟩,⟨c1,-⟩,⟨c2,-⟩,-⟩ := hS1.cells
 have f1 := hS1.frozen (x := ⟨w.heap.size + 1 + 1,#[.slice none 0 0],27⟩) (by simp) 0
 go_wp2
 have hS2 := (hS1.put (x := ⟨w.heap.size + 1 + 1,#[.slice none 0 0],27⟩) (by simp) (by simp only []; omega) 0 (.slice aq nq cq) (by simp) [] (by simp))
 exact bodyPost_ret (v := .agg #[.slice aq nq cq]) (by simp [results,Try.results38,go_sem,c2]) rfl ⟨aq,nq,cq,Q,er,rfl,hS2.ow (aq,nq,cq,Q) (by simp),⟨R,unhide HST⟩,hS2.wk,hS2.fr⟩
end Go.Proofs.Ytaiphahgjjjpbaa
namespace Go.Proofs.Ytaiphahgjjjpbaa
open Go.RowKit
set_option maxHeartbeats 400000 in
theorem wcmp_any (p : Nat) (e0 : Int) (a a' : Option Addr) (n n' cap cap' m m' : Nat) (w : World) (hk : Wk w p e0) (h : Num w a n m) (h' : Num w a' n' m') :
  Calls Try.prog 51 #[.pointer (some ⟨p,0,none⟩),.agg #[.slice a n cap],.agg #[.slice a' n' cap']] w fun en w' => en = .returned (.int .i64 (cmpI m m')) ∧ Wk w' p e0 ∧ But p w w' := by
 have hS := ((((Rs.begin_work hk).num h).num h').alloc #[.slice a n cap] 27).alloc #[.slice a' n' cap'] 27
 simp only [World.size_alloc] at hS
 go_enter Try.func51,Try.ntmps51
 go_wp2_with fail
 refine (cmpN_any a a' n n' cap cap' m m' _ (hS.nm (a,n,m) (by simp)) (hS.nm (a',n',m') (by simp))).mono ?_
 rintro en w1 ⟨rfl,hb1⟩
 have hS1 := hS.kept hb1
 clear hb1 hS hk h h'
 obtain ⟨r,hr⟩ : ∃ r,r = cmpI m m' := ⟨_,rfl⟩
 rw [← hr]
 have HR := hide hr
 clear hr
 go_wp2_with fail
 refine (keep_any p e0 0 _ hS1.wk).mono ?_
 rintro en w2 ⟨rfl,hk2,hbt⟩
 have hS2 := hS1.call hbt hk2
 go_wp2
 go_ret
 exact ⟨ret_int (unhide HR),by have := hk2; rw [Kp.same] at this; exact this,hS2.fr⟩
end Go.Proofs.Ytaiphahgjjjpbaa
namespace Go.Proofs.Ytaiphahgjjjpbaa
open Go.RowKit
abbrev Ms := List (Option Addr × Nat × Nat)
abbrev Os := List (Option Addr × Nat × Nat × Nat)
theorem Rs.sub {w0 W : World} {k : Option (Nat × Int)} {bs bs' : List En} {ms ms' : Ms} {os os' : Os} (h : Rs w0 W k bs ms os) (hb : ∀ x,x ∈ bs' → x ∈ bs) (hm : ∀ x,x ∈ ms' → x ∈ ms) (ho : ∀ x,x ∈ os' → x ∈ os) : Rs w0 W k bs' ms' os' :=
 ⟨h.wk,fun x hx => h.bx x (hb x hx),fun x hx => h.nm x (hm x hx),fun x hx => h.ow x (ho x hx),h.fr⟩
structure Rc (w0 : World) (S0 : Nat) (bs : List En) (ms : Ms) (os : Os) (k : Option (Nat × Int)) (bs' : List En) (os' : Os) (w' : World) : Prop where
 st : Rs w0 w' k bs' ms os'
 sz : S0 ≤ w'.heap.size
 old : ∀ x,x ∈ bs → x ∈ bs' ∧ x.b < S0
 oso : ∀ y,y ∈ os → y ∈ os'
 w0s : w0.heap.size ≤ S0
theorem Rc.start {w0 W : World} {k : Option (Nat × Int)} {bs bs1 : List En} {ms : Ms} {os : Os} (h : Rs w0 W k bs1 ms os) (hb : ∀ x,x ∈ bs → x ∈ bs1) : Rc w0 W.heap.size bs ms os k bs1 os W :=
 ⟨h,Nat.le_refl _,fun x hx => ⟨hb x hx,block_lt (h.bx x (hb x hx)).1⟩,fun _ h => h,h.size⟩
theorem Rs.cellAt {w0 W : World} {k : Option (Nat × Int)} {bs : List En} {ms : Ms} {os : Os} (h : Rs w0 W k bs ms os) {x : En} (hx : x ∈ bs) (j : Nat) (v : Value) (hv : x.cs[j]? = some v) : W.cell? ⟨x.b,j,none⟩ = some v := by
 rw [cell_of_row W x.b j _ _ _ (h.bx x hx).1]; exact hv
theorem Rc.alloc {w0 : World} {S0 : Nat} {bs : List En} {ms : Ms} {os : Os} {k : Option (Nat × Int)} {bs' : List En} {os' : Os} {w' : World} (h : Rc w0 S0 bs ms os k bs' os' w') (cs : Array Value) (t : TypeId) (ht : t ≠ 42 := by decide) (hl : noLimb cs.toList = true := by rfl) :
  Rc w0 S0 bs ms os k (⟨w'.heap.size,cs,t⟩ :: bs') os' (w'.alloc (.cells cs t)) :=
 ⟨h.st.alloc cs t ht hl,by have := h.sz; simp only [World.size_alloc]; omega,fun x hx => ⟨List.mem_cons_of_mem _ (h.old x hx).1,(h.old x hx).2⟩,h.oso,h.w0s⟩
theorem Rc.call {w0 : World} {S0 : Nat} {bs : List En} {ms : Ms} {os : Os} {k k2 : Option (Nat × Int)} {bs' : List En} {os' os2 : Os} {w' W : World} (h : Rc w0 S0 bs ms os k bs' os' w') (hs : Rs w0 W k2 bs' ms os2) (hz : w'.heap.size ≤ W.heap.size) (ho : ∀ y,y ∈ os' → y ∈ os2) : Rc w0 S0 bs ms os k2 bs' os2 W :=
 ⟨hs,Nat.le_trans h.sz hz,h.old,fun y hy => ho y (h.oso y hy),h.w0s⟩
theorem Rc.store {w0 : World} {S0 : Nat} {bs : List En} {ms : Ms} {os : Os} {k : Option (Nat × Int)} {bs' : List En} {os' : Os} {w' : World} (h : Rc w0 S0 bs ms os k bs' os' w') {g : Nat} {cs : Array Value} {t : TypeId} (hx : (⟨g,cs,t⟩ : En) ∈ bs') (hw : w0.heap.size ≤ g) (hg : ∀ x,x ∈ bs → x.b ≠ g) (j : Nat) (u : Value) (hu : ∀ z,u ≠ .int .u32 z) :
  Rc w0 S0 bs ms os k (⟨g,cs.setIfInBounds j u,t⟩ :: bs'.filter (fun y => y.b ≠ g)) os' (w'.setCell ⟨g,j,none⟩ u) := by
 refine ⟨h.st.put hx hw j u hu _ (fun y hy => ?_),by have := h.sz; simpa [World.setCell] using this,fun x hx' => ⟨List.mem_cons_of_mem _ (List.mem_filter.2 ⟨(h.old x hx').1,by simpa using hg x hx'⟩),(h.old x hx').2⟩,h.oso,h.w0s⟩
 rcases List.mem_cons.1 hy with rfl | hy
 ·exact Or.inl rfl
 ·have := List.mem_filter.1 hy
  exact Or.inr ⟨this.1,by simpa using this.2⟩
def upward (ops : Array Oper) : Bool := (List.range ops.size).all fun i => match ops[i]? with
 | none => true
 | some o => o.after.all fun e => !(Region.binds .any e) || decide (e.on < i)
theorem all_done {ops : Array Oper} {l : Array Bool} (hr : Region.ready .any ops l = []) (hu : upward ops = true) (hl : l.size = ops.size) : ∀ i,i < ops.size → l.getD i true = true := by
 intro i
 induction i using Nat.strongRecOn with
 | ind i ih =>
  intro hi
  refine ready_nil (i := i) (o := ops[i]) hr (Array.getElem?_eq_getElem hi) (fun e he hb => ?_)
  have h := List.all_eq_true.1 hu i (List.mem_range.2 hi)
  rw [Array.getElem?_eq_getElem hi] at h
  have h2 := Array.all_eq_true'.1 h e he
  rw [hb] at h2
  have h3 : e.on < i := by simpa using h2
  have h4 := ih e.on h3 (by omega)
  have hs : e.on < l.size := by omega
  rw [Array.getD_eq_getD_getElem?] at h4 ⊢
  rw [Array.getElem?_eq_getElem hs] at h4 ⊢
  exact h4
def AlV (bs' : List En) (S0 : Nat) (v : Value) (t : TypeId) : Prop := ∃ g s,v = .pointer (some ⟨g,0,none⟩) ∧ S0 ≤ g ∧ (⟨g,#[s],t⟩ : En) ∈ bs'
def StV (bs' : List En) (S0 : Nat) (v x : Value) (t : TypeId) : Prop := ∃ g s,v = .pointer (some ⟨g,0,none⟩) ∧ S0 ≤ g ∧ x = .agg #[s] ∧ (⟨g,#[s],t⟩ : En) ∈ bs'
theorem AlV.cons {bs' : List En} {S0 : Nat} {v : Value} {t : TypeId} (h : AlV bs' S0 v t) (y : En) : AlV (y :: bs') S0 v t := by
 obtain ⟨g,s,h1,h2,h3⟩ := h
 exact ⟨g,s,h1,h2,List.mem_cons_of_mem _ h3⟩
theorem StV.cons {bs' : List En} {S0 : Nat} {v x : Value} {t : TypeId} (h : StV bs' S0 v x t) (y : En) : StV (y :: bs') S0 v x t := by
 obtain ⟨g,s,h1,h2,h3,h4⟩ := h
 exact ⟨g,s,h1,h2,h3,List.mem_cons_of_mem _ h4⟩
theorem AlV.but {bs' : List En} {S0 : Nat} {v : Value} {t : TypeId} (h : AlV bs' S0 v t) {g : Nat} (hne : v ≠ .pointer (some ⟨g,0,none⟩)) (y : En) : AlV (y :: bs'.filter (fun y => y.b ≠ g)) S0 v t := by
 obtain ⟨g',s,h1,h2,h3⟩ := h
 exact ⟨g',s,h1,h2,List.mem_cons_of_mem _ (List.mem_filter.2 ⟨h3,by simp only [ne_eq,decide_not,Bool.not_eq_eq_eq_not,Bool.not_true,decide_eq_false_iff_not]; intro e; exact hne (by rw [h1,e])⟩)⟩
theorem AlV.self {bs' : List En} {S0 g : Nat} {v s : Value} {t : TypeId} (h : v = .pointer (some ⟨g,0,none⟩)) (hg : S0 ≤ g) : AlV ((⟨g,#[s],t⟩ : En) :: bs') S0 v t := ⟨g,s,h,hg,List.mem_cons_self ..⟩
theorem StV.but {bs' : List En} {S0 : Nat} {v x : Value} {t : TypeId} (h : StV bs' S0 v x t) {g : Nat} (hne : v ≠ .pointer (some ⟨g,0,none⟩)) (y : En) : StV (y :: bs'.filter (fun y => y.b ≠ g)) S0 v x t := by
 obtain ⟨g',s,h1,h2,h3,h4⟩ := h
 exact ⟨g',s,h1,h2,h3,List.mem_cons_of_mem _ (List.mem_filter.2 ⟨h4,by simp only [ne_eq,decide_not,Bool.not_eq_eq_eq_not,Bool.not_true,decide_eq_false_iff_not]; intro e; exact hne (by rw [h1,e])⟩)⟩
theorem AlV.ne {W w0 : World} {k : Option (Nat × Int)} {ms : Ms} {os : Os} {bs' : List En} {S0 : Nat} {v : Value} {t : TypeId} (h : AlV bs' S0 v t) (hs : Rs w0 W k bs' ms os) : v ≠ .pointer (some ⟨W.heap.size,0,none⟩) := by
 obtain ⟨g,s,h1,h2,h3⟩ := h
 have := block_lt (hs.bx _ h3).1
 rw [h1]
 intro e
 injection e with e
 injection e with e
 injection e with e
 simp only at this
 omega
structure Wz (e e' : Int) (M X : Nat) (O : Prop) : Prop where
 ok : e' = 0 → e = 0 ∧ M = X
 many : e = 0 → e' ≠ 0 → e' = 4 ∧ O
 stay : e ≠ 0 → e' = e
theorem Wz.of_stp {e r : Int} {M X : Nat} (h : Stp r M X) : Wz e (Kp e r) M X (Over X) := by
 refine ⟨fun h0 => ?_,fun h0 h1 => ?_,fun h0 => by rw [Kp,if_neg h0]⟩
 ·obtain ⟨e1,e2⟩ := Kp.ok h0
  refine ⟨e1,?_⟩
  rcases h with ⟨_,h⟩ | ⟨h,_⟩
  ·exact h
  ·omega
 ·subst h0
  rw [Kp.zero] at h1 ⊢
  rcases h with ⟨h,_⟩ | h
  ·exact absurd h h1
  ·exact h
theorem Wz.of_ok {e r : Int} {M X : Nat} (h : r = 0 ∧ M = X) : Wz e (Kp e r) M X False := by
 obtain ⟨rfl,rfl⟩ := h
 rw [Kp.same]
 exact ⟨fun h => ⟨h,rfl⟩,fun h0 h1 => absurd h0 h1,fun _ => rfl⟩
theorem Rs.more {w0 W W' : World} {p n c M : Nat} {e r : Int} {a : Option Addr} {bs : List En} {ms : Ms} {os : Os} (hS : Rs w0 W (some (p,e)) bs ms os) (hm : Mine W' W.heap.size a n c M) (hk : Wk W' p r) (hb : But p W W') : Rs w0 W' (some (p,r)) bs ms ((a,n,c,M) :: os) :=
 (hS.call hb hk).own hm hS.size
def One (w0 W : World) (p : Nat) (e : Int) (bs : List En) (ms : Ms) (os : Os) (X : Nat) (O : Prop) (en : Ending) (W' : World) : Prop :=
 ∃ a n c M e',en = .returned (.agg #[.slice a n c]) ∧ Rs w0 W' (some (p,e')) bs ms ((a,n,c,M) :: os) ∧ Wz e e' M X O ∧ W.heap.size ≤ W'.heap.size
theorem W_add {w0 W : World} {p : Nat} {e : Int} {bs : List En} {ms : Ms} {os : Os} (hS : Rs w0 W (some (p,e)) bs ms os) {a a' : Option Addr} {n n' m m' : Nat} (c c' : Nat) (h : Num W a n m) (h' : Num W a' n' m') :
  Calls Try.prog 33 #[.pointer (some ⟨p,0,none⟩),.agg #[.slice a n c],.agg #[.slice a' n' c']] W (One w0 W p e bs ms os (m + m') (Over (m + m'))) := by
 refine (wadd_any p e a a' n n' c c' m m' W hS.wk h h').mono ?_
 rintro en W' ⟨a1,n1,c1,M,r,rfl,hm,hst,hk,hb⟩
 exact ⟨a1,n1,c1,M,_,rfl,hS.more hm hk hb,Wz.of_stp hst,hb.size⟩
theorem W_mul {w0 W : World} {p : Nat} {e : Int} {bs : List En} {ms : Ms} {os : Os} (hS : Rs w0 W (some (p,e)) bs ms os) {a a' : Option Addr} {n n' m m' : Nat} (c c' : Nat) (h : Num W a n m) (h' : Num W a' n' m') :
  Calls Try.prog 47 #[.pointer (some ⟨p,0,none⟩),.agg #[.slice a n c],.agg #[.slice a' n' c']] W (One w0 W p e bs ms os (m * m') (Over (m * m'))) := by
 refine (wmul_any p e a a' n n' c c' m m' W hS.wk h h').mono ?_
 rintro en W' ⟨a1,n1,c1,M,r,rfl,hm,hst,hk,hb⟩
 exact ⟨a1,n1,c1,M,_,rfl,hS.more hm hk hb,Wz.of_stp hst,hb.size⟩
theorem W_gcd {w0 W : World} {p : Nat} {e : Int} {bs : List En} {ms : Ms} {os : Os} (hS : Rs w0 W (some (p,e)) bs ms os) {a a' : Option Addr} {n n' m m' : Nat} (c c' : Nat) (h : Num W a n m) (h' : Num W a' n' m') :
  Calls Try.prog 36 #[.pointer (some ⟨p,0,none⟩),.agg #[.slice a n c],.agg #[.slice a' n' c']] W (One w0 W p e bs ms os (Nat.gcd m m') False) := by
 refine (wgcd_any p e a a' n n' c c' m m' W hS.wk h h').mono ?_
 rintro en W' ⟨a1,n1,c1,M,r,rfl,hm,hst,hk,hb⟩
 exact ⟨a1,n1,c1,M,_,rfl,hS.more hm hk hb,Wz.of_ok hst,hb.size⟩
theorem W_sub {w0 W : World} {p : Nat} {e : Int} {bs : List En} {ms : Ms} {os : Os} (hS : Rs w0 W (some (p,e)) bs ms os) {a a' : Option Addr} {n n' m m' : Nat} (c c' : Nat) (h : Num W a n m) (h' : Num W a' n' m') :
  Calls Try.prog 71 #[.pointer (some ⟨p,0,none⟩),.agg #[.slice a n c],.agg #[.slice a' n' c']] W (One w0 W p e bs ms os (m - m') False) := by
 refine (wsub_any p e a a' n n' c c' m m' W hS.wk h h').mono ?_
 rintro en W' ⟨a1,n1,c1,M,r,rfl,hm,hst,hk,hb⟩
 exact ⟨a1,n1,c1,M,_,rfl,hS.more hm hk hb,Wz.of_ok hst,hb.size⟩
structure Wd (e e' : Int) (Q R m d : Nat) : Prop where
 ok : e' = 0 → e = 0 ∧ Q = m / d ∧ R = m % d ∧ 0 < d
 zero : e = 0 → e' ≠ 0 → d = 0
 stay : e ≠ 0 → e' = e
theorem Wd.of {e r : Int} {Q R m d : Nat} (h : DStp r Q R m d) : Wd e (Kp e r) Q R m d := by
 refine ⟨fun h0 => ?_,fun h0 h1 => ?_,fun h0 => by rw [Kp,if_neg h0]⟩
 ·obtain ⟨e1,e2⟩ := Kp.ok h0
  rcases h with ⟨_,h,_⟩ | ⟨h0,_,h1,h2⟩
  ·omega
  ·exact ⟨e1,h1,h2,h0⟩
 ·subst h0
  rw [Kp.zero] at h1
  rcases h with ⟨h,_⟩ | ⟨_,h,_⟩
  ·exact h
  ·exact absurd h h1
def OneD (w0 W : World) (p : Nat) (e : Int) (bs : List En) (ms : Ms) (os : Os) (m d : Nat) (en : Ending) (W' : World) : Prop :=
 ∃ a n c M e',en = .returned (.agg #[.slice a n c]) ∧ Rs w0 W' (some (p,e')) bs ms ((a,n,c,M) :: os) ∧ (∃ R,Wd e e' M R m d) ∧ W.heap.size ≤ W'.heap.size
def Two (w0 W : World) (p : Nat) (_e : Int) (bs : List En) (ms : Ms) (os : Os) (P : Int → Nat → Nat → Prop) (en : Ending) (W' : World) : Prop :=
 ∃ a n c M a' n' c' M' e',en = .returned (.tuple #[.agg #[.slice a n c],.agg #[.slice a' n' c']]) ∧ Rs w0 W' (some (p,e')) bs ms ((a',n',c',M') :: (a,n,c,M) :: os) ∧ P e' M M' ∧ W.heap.size ≤ W'.heap.size
theorem W_over {w0 W : World} {p : Nat} {e : Int} {bs : List En} {ms : Ms} {os : Os} (hS : Rs w0 W (some (p,e)) bs ms os) {a a' : Option Addr} {n n' m m' : Nat} (c c' : Nat) (h : Num W a n m) (h' : Num W a' n' m') :
  Calls Try.prog 38 #[.pointer (some ⟨p,0,none⟩),.agg #[.slice a n c],.agg #[.slice a' n' c']] W (OneD w0 W p e bs ms os m m') := by
 refine (wover_any p e a a' n n' c c' m m' W hS.wk h h').mono ?_
 rintro en W' ⟨a1,n1,c1,M,r,rfl,hm,⟨R,hst⟩,hk,hb⟩
 exact ⟨a1,n1,c1,M,_,rfl,hS.more hm hk hb,⟨R,Wd.of hst⟩,hb.size⟩
theorem W_div {w0 W : World} {p : Nat} {e : Int} {bs : List En} {ms : Ms} {os : Os} (hS : Rs w0 W (some (p,e)) bs ms os) {a a' : Option Addr} {n n' m m' : Nat} (c c' : Nat) (h : Num W a n m) (h' : Num W a' n' m') :
  Calls Try.prog 31 #[.pointer (some ⟨p,0,none⟩),.agg #[.slice a n c],.agg #[.slice a' n' c']] W (Two w0 W p e bs ms os (fun e' Q R => Wd e e' Q R m m')) := by
 refine (wdiv_any p e a a' n n' c c' m m' W hS.wk h h').mono ?_
 rintro en W' ⟨a1,n1,c1,a2,n2,c2,Q,R,r,rfl,hq,hr,hst,hk,hb⟩
 exact ⟨a1,n1,c1,Q,a2,n2,c2,R,_,rfl,((hS.call hb hk).own hq hS.size).own hr hS.size,Wd.of hst,hb.size⟩
theorem W_cmp {w0 W : World} {p : Nat} {e : Int} {bs : List En} {ms : Ms} {os : Os} (hS : Rs w0 W (some (p,e)) bs ms os) {a a' : Option Addr} {n n' m m' : Nat} (c c' : Nat) (h : Num W a n m) (h' : Num W a' n' m') :
  Calls Try.prog 51 #[.pointer (some ⟨p,0,none⟩),.agg #[.slice a n c],.agg #[.slice a' n' c']] W (fun en W' => en = .returned (.int .i64 (cmpI m m')) ∧ Rs w0 W' (some (p,e)) bs ms os ∧ W.heap.size ≤ W'.heap.size) := by
 refine (wcmp_any p e a a' n n' c c' m m' W hS.wk h h').mono ?_
 rintro en W' ⟨rfl,hk,hb⟩
 exact ⟨rfl,hS.call hb hk,hb.size⟩
theorem W_of {w0 W : World} {k : Option (Nat × Int)} {bs : List En} {ms : Ms} {os : Os} (hS : Rs w0 W k bs ms os) (u : Nat) (hu : u < 18446744073709551616) :
  Calls Try.prog 34 #[.int .u64 (u : Int)] W (fun en W' => ∃ a n c,en = .returned (.agg #[.slice a n c]) ∧ Rs w0 W' k bs ms ((a,n,c,u) :: os) ∧ W.heap.size ≤ W'.heap.size) := by
 refine (of_any u W hu).mono ?_
 rintro en W' ⟨⟨a,n,c,rfl,hm⟩,hb⟩
 exact ⟨a,n,c,rfl,(hS.kept hb).own hm hS.size,hb.size⟩
end Go.Proofs.Ytaiphahgjjjpbaa
namespace Go.Proofs.Ytaiphahgjjjpbaa
open Go.RowKit
set_option maxHeartbeats 400000 in
theorem nought_any (a : Option Addr) (n cap : Nat) (w : World) :
  Calls Try.prog 32 #[.agg #[.slice a n cap]] w fun en w' => en = .returned (.bool (decide (n = 0))) ∧ Below w.heap.size w w' := by
 go_enter Try.func32,Try.ntmps32
 go_wp2
 go_ret
 refine ⟨ret_bool ?_,gr_alloc _ _⟩
 by_cases h : n = 0 <;> simp [h] <;> omega
set_option maxHeartbeats 400000 in
theorem isOne_any (a : Option Addr) (n cap m : Nat) (w : World) (h : Num w a n m) :
  Calls Try.prog 43 #[.agg #[.slice a n cap]] w fun en w' => en = .returned (.bool (decide (m = 1))) ∧ Below w.heap.size w w' := by
 have hS := ((Rs.begin w).num h).alloc #[.slice a n cap] 27
 by_cases h2 : n ≤ 2
 ·go_enter Try.func43,Try.ntmps43
  go_wp2_with fail
  refine (low_small a n cap m _ (hS.nm (a,n,m) (by simp)) h2).mono ?_
  rintro en w1 ⟨rfl,hb1⟩
  go_wp2
  go_ret
  refine ⟨ret_bool ?_,(hS.kept hb1).fr⟩
  by_cases h : m = 1 <;> simp [h] <;> omega
 ·go_enter Try.func43,Try.ntmps43
  go_wp2_with fail
  refine (low_big a n cap m _ (hS.nm (a,n,m) (by simp)) (by omega)).mono ?_
  rintro en w1 ⟨rfl,hb1⟩
  go_wp2
  go_ret
  refine ⟨ret_bool ?_,(hS.kept hb1).fr⟩
  have : m ≠ 1 := by
   rintro rfl
   obtain ⟨xs,hn,_,hw,hN,hv,hb⟩ := h
   have := Pl.val_le_len hw hN 1
   omega
  simp [this]
def RatV (s : Bool) (a : Option Addr) (n c : Nat) (a' : Option Addr) (n' c' : Nat) : Value := .agg #[.bool s,.slice a n c,.slice a' n' c']
structure Fra1S where
 (b0 b1 b2 b3 b4 b5 b6 b7 b8 b9 b10 : Bool)
 (v0 v1 v2 v3 v4 v5 v6 v7 v8 v10 : Value)
 bs9 : List En
 os9 : Os
structure Fra1R (w : World) (p : Nat) (a a' : Option Addr) (n n' cap cap' : Nat) (S9 : Nat) (b0 b1 b2 b3 b4 b5 b6 b7 b8 b9 b10 : Bool) (v0 v1 v2 v3 v4 v5 v6 v7 v8 v10 : Value)  (bs9 : List En) (os9 : Os) (w' : World) : Prop where
 hc : Rc w S9 [⟨w.heap.size + 1,#[.slice a' n' cap'],27⟩,⟨w.heap.size,#[.slice a n cap],27⟩] [] [] (some ((p),0)) bs9 os9 w'
 f0 : b0 = true → v0 = .bool true
 f1 : b1 = true → v1 = .bool true
 f2 : b2 = true → v2 = .agg #[.slice a n cap]
 f3 : b3 = true → v3 = .bool (decide (n = 0))
 f4 : b4 = true → v4 = .bool (!(decide (n = 0)))
 f5 : b5 = true → v5 = .bool (!(decide (n = 0)))
 f6 : b6 = true → v6 = .agg #[.slice a n cap]
 f7 : b7 = true → v7 = .agg #[.slice a' n' cap']
 f8 : b8 = true → v8 = .agg #[.bool (!(decide (n = 0))),.slice a n cap,.slice a' n' cap']
 f10 : b10 = true → v10 = .int .i64 0
 o0_0 : b9 = false → ⟨w.heap.size + 1 + 1,#[.bool false,.slice none 0 0,.slice none 0 0],29⟩ ∈ bs9
 o0_1 : b9 = true → ⟨w.heap.size + 1 + 1,#[.bool (!(decide (n = 0))),.slice a n cap,.slice a' n' cap'],29⟩ ∈ bs9
 g9_8 : b9 = true → b8 = true
def Fra1I (w : World) (p : Nat) (a a' : Option Addr) (n n' cap cap' : Nat) (S9 : Nat) (l : Array Bool) (act : Act) (w' : World) : Fra1S → Prop
 | ⟨b0,b1,b2,b3,b4,b5,b6,b7,b8,b9,b10,v0,v1,v2,v3,v4,v5,v6,v7,v8,v10,bs9,os9⟩ => l = #[b0,b1,b2,b3,b4,b5,b6,b7,b8,b9,b10] ∧ act = { tmps := #[.pointer (some ⟨p,0,none⟩),.bool true,.agg #[.slice a n cap],.agg #[.slice a' n' cap'],undef,undef,.pointer (some ⟨w.heap.size,0,none⟩),.pointer (some ⟨w.heap.size + 1,0,none⟩),.pointer (some ⟨w.heap.size + 1 + 1,0,none⟩),v10,.pointer (some ⟨p,0,none⟩),.pointer (some ⟨p,0,none⟩),.pointer (some ⟨p,0,none⟩),.int .i64 0,.bool false,undef,undef,undef,undef,undef,v0,v1,v2,v3,v4,v5,v6,v7,v8],defers := [] } ∧ Fra1R w p a a' n n' cap cap' S9 b0 b1 b2 b3 b4 b5 b6 b7 b8 b9 b10 v0 v1 v2 v3 v4 v5 v6 v7 v8 v10 bs9 os9 w'
set_option maxRecDepth 20000 in
set_option maxHeartbeats 4000000 in
theorem wfrac_true (p : Nat) (a a' : Option Addr) (n n' cap cap' : Nat) (w : World) (hk : Wk w p 0) :
  Calls Try.prog 37 #[.pointer (some ⟨p,0,none⟩),.bool true,.agg #[.slice a n cap],.agg #[.slice a' n' cap']] w fun en w' => Wk w' p 0 ∧ But p w w' ∧ en = .returned (.tuple #[RatV (!decide (n = 0)) a n cap a' n' cap',.int .i64 0]) := by
 have hS := Rs.begin_work hk
 replace hS := hS.alloc #[.slice a n cap] 27
 try simp only [World.size_alloc] at hS
 replace hS := hS.alloc #[.slice a' n' cap'] 27
 try simp only [World.size_alloc] at hS
 replace hS := hS.alloc #[.bool false,.slice none 0 0,.slice none 0 0] 29
 try simp only [World.size_alloc] at hS
 have hcw := Wk.cell hS.wk
 go_enter Try.func37,Try.ntmps37
 go_wp2_with fail
 clear hcw
 refine wp_region_any (by kernel_rfl) ?_
 change wpAny _ _ _ _ _ _ _ (World.drew _)
 have hS9 := hS.drew
 have hsW9 : (World.drew (((w.alloc (.cells #[.slice a n cap] 27)).alloc (.cells #[.slice a' n' cap'] 27)).alloc (.cells #[.bool false,.slice none 0 0,.slice none 0 0] 29))).heap.size = w.heap.size + 1 + 1 + 1 := by first | rfl | simp
 generalize World.drew (((w.alloc (.cells #[.slice a n cap] 27)).alloc (.cells #[.slice a' n' cap'] 27)).alloc (.cells #[.bool false,.slice none 0 0,.slice none 0 0] 29)) = Wd at hS9 hsW9 ⊢
 obtain ⟨S9,hS9z⟩ : ∃ x,x = Wd.heap.size := ⟨_,rfl⟩
 have hC9 := Rc.start (bs := [⟨w.heap.size + 1,#[.slice a' n' cap'],27⟩,⟨w.heap.size,#[.slice a n cap],27⟩]) hS9 (by simp)
 rw [← hS9z] at hC9
 have hP9_0 := hS9.bx ⟨w.heap.size + 1 + 1,#[.bool false,.slice none 0 0,.slice none 0 0],29⟩ (by simp)
 have hP9_0 := block_lt hP9_0.1
 rw [← hS9z] at hP9_0
 simp only [] at hP9_0
 refine wpAny_inv (fun l act w' => ∃ σ,Fra1I w p a a' n n' cap cap' S9 l act w' σ) ?_ ?_ _ _ _ _ ?_ ?_
 ·intro l act w' i9 hI9 hi9 hl9
  have hin9 : i9 < 11 := by
   by_cases h : i9 < 11
   ·exact h
   ·obtain ⟨⟨⟩,rfl,_⟩ := hI9
    rw [Array.getElem?_eq_none (by simp; omega)] at hl9; cases hl9
  have hcase : i9 = 0 ∨ i9 = 1 ∨ i9 = 2 ∨ i9 = 3 ∨ i9 = 4 ∨ i9 = 5 ∨ i9 = 6 ∨ i9 = 7 ∨ i9 = 8 ∨ i9 = 9 ∨ i9 = 10 := by omega
  clear hin9
  rcases hcase with rfl | rfl | rfl | rfl | rfl | rfl | rfl | rfl | rfl | rfl | rfl
  ·obtain ⟨⟨b0,b1,b2,b3,b4,b5,b6,b7,b8,b9,b10,v0,v1,v2,v3,v4,v5,v6,v7,v8,v10,bs9,os9⟩,rfl,rfl,hR⟩ := hI9
   have hc := hR.hc
   obtain rfl : b0 = false := by simpa using hl9
   clear hl9
   clear hi9
   replace hc := hR.hc
   refine wpOp_step rfl (fun K hK => ?_)
   go_simp
   exact hK _ _ ⟨⟨_,_,_,_,_,_,_,_,_,_,_,_,_,_,_,_,_,_,_,_,_,_,_⟩,rfl,rfl,{ hR with hc := hc,f0 := (fun _ => rfl) }⟩
  ·obtain ⟨⟨b0,b1,b2,b3,b4,b5,b6,b7,b8,b9,b10,v0,v1,v2,v3,v4,v5,v6,v7,v8,v10,bs9,os9⟩,rfl,rfl,hR⟩ := hI9
   have hc := hR.hc
   obtain rfl : b1 = false := by simpa using hl9
   clear hl9
   obtain ⟨o9,ho9,hd9⟩ := (mem_ready.1 hi9).2
   cases ho9
   have e0 : b0 = true := hd9 ⟨0,.data⟩ (by simp) rfl
   clear hd9
   subst e0
   clear hi9
   have h9 := hR.f0 rfl
   subst h9
   replace hc := hR.hc
   refine wpOp_step rfl (fun K hK => ?_)
   go_simp
   exact hK _ _ ⟨⟨_,_,_,_,_,_,_,_,_,_,_,_,_,_,_,_,_,_,_,_,_,_,_⟩,rfl,rfl,{ hR with hc := hc,f1 := (fun _ => rfl) }⟩
  ·obtain ⟨⟨b0,b1,b2,b3,b4,b5,b6,b7,b8,b9,b10,v0,v1,v2,v3,v4,v5,v6,v7,v8,v10,bs9,os9⟩,rfl,rfl,hR⟩ := hI9
   have hc := hR.hc
   obtain rfl : b2 = false := by simpa using hl9
   clear hl9
   obtain ⟨o9,ho9,hd9⟩ := (mem_ready.1 hi9).2
   cases ho9
   have e1 : b1 = true := hd9 ⟨1,.guard⟩ (by simp) rfl
   clear hd9
   subst e1
   clear hi9
   have h9 := hR.f1 rfl
   subst h9
   replace hc := hR.hc
   have c9_0 := hc.st.cellAt (hc.old ⟨w.heap.size,#[.slice a n cap],27⟩ (by simp)).1 0 (.slice a n cap) rfl
   simp only [] at c9_0
   refine wpOp_step rfl (fun K hK => ?_)
   go_simp
   exact hK _ _ ⟨⟨_,_,_,_,_,_,_,_,_,_,_,_,_,_,_,_,_,_,_,_,_,_,_⟩,rfl,rfl,{ hR with hc := hc,f2 := (fun _ => rfl) }⟩
  ·obtain ⟨⟨b0,b1,b2,b3,b4,b5,b6,b7,b8,b9,b10,v0,v1,v2,v3,v4,v5,v6,v7,v8,v10,bs9,os9⟩,rfl,rfl,hR⟩ := hI9
   have hc := hR.hc
   obtain rfl : b3 = false := by simpa using hl9
   clear hl9
   obtain ⟨o9,ho9,hd9⟩ := (mem_ready.1 hi9).2
   cases ho9
   have e1 : b1 = true := hd9 ⟨1,.chain⟩ (by simp) rfl
   have e2 : b2 = true := hd9 ⟨2,.data⟩ (by simp) rfl
   clear hd9
   subst e1 e2
   clear hi9
   have h9 := hR.f1 rfl
   subst h9
   have h9 := hR.f2 rfl
   subst h9
   replace hc := hR.hc
   have HR := hide hR
   clear hR
   refine wpOp_step rfl (fun K hK => ?_)
   go_simp
   go_wp2_with fail
   refine (nought_any a n cap _).mono ?_
   rintro en w9 ⟨rfl,hb9⟩
   have hR := unhide HR
   exact hK _ _ ⟨⟨_,_,_,_,_,_,_,_,_,_,_,_,_,_,_,_,_,_,_,_,_,_,_⟩,rfl,rfl,{ hR with hc := (hc.call (hc.st.kept hb9) hb9.size (fun y hy => hy)),f3 := (fun _ => rfl) }⟩
  ·obtain ⟨⟨b0,b1,b2,b3,b4,b5,b6,b7,b8,b9,b10,v0,v1,v2,v3,v4,v5,v6,v7,v8,v10,bs9,os9⟩,rfl,rfl,hR⟩ := hI9
   have hc := hR.hc
   obtain rfl : b4 = false := by simpa using hl9
   clear hl9
   obtain ⟨o9,ho9,hd9⟩ := (mem_ready.1 hi9).2
   cases ho9
   have e1 : b1 = true := hd9 ⟨1,.guard⟩ (by simp) rfl
   have e3 : b3 = true := hd9 ⟨3,.data⟩ (by simp) rfl
   clear hd9
   subst e1 e3
   clear hi9
   have h9 := hR.f1 rfl
   subst h9
   have h9 := hR.f3 rfl
   subst h9
   replace hc := hR.hc
   refine wpOp_step rfl (fun K hK => ?_)
   go_simp
   exact hK _ _ ⟨⟨_,_,_,_,_,_,_,_,_,_,_,_,_,_,_,_,_,_,_,_,_,_,_⟩,rfl,rfl,{ hR with hc := hc,f4 := (fun _ => by first | rfl | simp) }⟩
  ·obtain ⟨⟨b0,b1,b2,b3,b4,b5,b6,b7,b8,b9,b10,v0,v1,v2,v3,v4,v5,v6,v7,v8,v10,bs9,os9⟩,rfl,rfl,hR⟩ := hI9
   have hc := hR.hc
   obtain rfl : b5 = false := by simpa using hl9
   clear hl9
   obtain ⟨o9,ho9,hd9⟩ := (mem_ready.1 hi9).2
   cases ho9
   have e1 : b1 = true := hd9 ⟨1,.data⟩ (by simp) rfl
   have e4 : b4 = true := hd9 ⟨4,.data⟩ (by simp) rfl
   clear hd9
   subst e1 e4
   clear hi9
   have h9 := hR.f1 rfl
   subst h9
   have h9 := hR.f4 rfl
   subst h9
   replace hc := hR.hc
   refine wpOp_step rfl (fun K hK => ?_)
   go_simp
   exact hK _ _ ⟨⟨_,_,_,_,_,_,_,_,_,_,_,_,_,_,_,_,_,_,_,_,_,_,_⟩,rfl,rfl,{ hR with hc := hc,f5 := (fun _ => by first | rfl | simp) }⟩
  ·obtain ⟨⟨b0,b1,b2,b3,b4,b5,b6,b7,b8,b9,b10,v0,v1,v2,v3,v4,v5,v6,v7,v8,v10,bs9,os9⟩,rfl,rfl,hR⟩ := hI9
   have hc := hR.hc
   obtain rfl : b6 = false := by simpa using hl9
   clear hl9
   clear hi9
   replace hc := hR.hc
   have c9_0 := hc.st.cellAt (hc.old ⟨w.heap.size,#[.slice a n cap],27⟩ (by simp)).1 0 (.slice a n cap) rfl
   simp only [] at c9_0
   refine wpOp_step rfl (fun K hK => ?_)
   go_simp
   exact hK _ _ ⟨⟨_,_,_,_,_,_,_,_,_,_,_,_,_,_,_,_,_,_,_,_,_,_,_⟩,rfl,rfl,{ hR with hc := hc,f6 := (fun _ => rfl) }⟩
  ·obtain ⟨⟨b0,b1,b2,b3,b4,b5,b6,b7,b8,b9,b10,v0,v1,v2,v3,v4,v5,v6,v7,v8,v10,bs9,os9⟩,rfl,rfl,hR⟩ := hI9
   have hc := hR.hc
   obtain rfl : b7 = false := by simpa using hl9
   clear hl9
   clear hi9
   replace hc := hR.hc
   have c9_0 := hc.st.cellAt (hc.old ⟨w.heap.size + 1,#[.slice a' n' cap'],27⟩ (by simp)).1 0 (.slice a' n' cap') rfl
   simp only [] at c9_0
   refine wpOp_step rfl (fun K hK => ?_)
   go_simp
   exact hK _ _ ⟨⟨_,_,_,_,_,_,_,_,_,_,_,_,_,_,_,_,_,_,_,_,_,_,_⟩,rfl,rfl,{ hR with hc := hc,f7 := (fun _ => rfl) }⟩
  ·obtain ⟨⟨b0,b1,b2,b3,b4,b5,b6,b7,b8,b9,b10,v0,v1,v2,v3,v4,v5,v6,v7,v8,v10,bs9,os9⟩,rfl,rfl,hR⟩ := hI9
   have hc := hR.hc
   obtain rfl : b8 = false := by simpa using hl9
   clear hl9
   obtain ⟨o9,ho9,hd9⟩ := (mem_ready.1 hi9).2
   cases ho9
   have e5 : b5 = true := hd9 ⟨5,.data⟩ (by simp) rfl
   have e6 : b6 = true := hd9 ⟨6,.data⟩ (by simp) rfl
   have e7 : b7 = true := hd9 ⟨7,.data⟩ (by simp) rfl
   clear hd9
   subst e5 e6 e7
   clear hi9
   have h9 := hR.f5 rfl
   subst h9
   have h9 := hR.f6 rfl
   subst h9
   have h9 := hR.f7 rfl
   subst h9
   replace hc := hR.hc
   refine wpOp_step rfl (fun K hK => ?_)
   go_simp
   exact hK _ _ ⟨⟨_,_,_,_,_,_,_,_,_,_,_,_,_,_,_,_,_,_,_,_,_,_,_⟩,rfl,rfl,{ hR with hc := hc,f8 := (fun _ => by first | rfl | simp),o0_1 := (fun h => Bool.noConfusion (hR.g9_8 h)),g9_8 := (fun _ => rfl) }⟩
  ·obtain ⟨⟨b0,b1,b2,b3,b4,b5,b6,b7,b8,b9,b10,v0,v1,v2,v3,v4,v5,v6,v7,v8,v10,bs9,os9⟩,rfl,rfl,hR⟩ := hI9
   have hc := hR.hc
   obtain rfl : b9 = false := by simpa using hl9
   clear hl9
   obtain ⟨o9,ho9,hd9⟩ := (mem_ready.1 hi9).2
   cases ho9
   have e8 : b8 = true := hd9 ⟨8,.data⟩ (by simp) rfl
   clear hd9
   subst e8
   clear hi9
   have h9 := hR.f8 rfl
   subst h9
   replace hc := hR.hc
   have hm9 := hR.o0_0 rfl
   have fz9_0 := hc.st.frozen hm9 0
   have cz9_0 := hc.st.cellAt hm9 0 (.bool false) rfl
   simp only [] at fz9_0 cz9_0
   have fz9_1 := hc.st.frozen hm9 1
   have cz9_1 := hc.st.cellAt hm9 1 (.slice none 0 0) rfl
   simp only [] at fz9_1 cz9_1
   have fz9_2 := hc.st.frozen hm9 2
   have cz9_2 := hc.st.cellAt hm9 2 (.slice none 0 0) rfl
   simp only [] at fz9_2 cz9_2
   have hn9 : ∀ x,x ∈ ([⟨w.heap.size + 1,#[.slice a' n' cap'],27⟩,⟨w.heap.size,#[.slice a n cap],27⟩] : List En) → x.b ≠ w.heap.size + 1 + 1 := by intro x hx; rcases List.mem_cons.1 hx with rfl | hx; (simp only []; omega); rcases List.mem_cons.1 hx with rfl | hx; (simp only []; omega);  exact absurd hx List.not_mem_nil
   have hw9 : w.heap.size ≤ w.heap.size + 1 + 1 := by omega
   refine wpOp_step rfl (fun K hK => ?_)
   go_simp
   exact hK _ _ ⟨⟨_,_,_,_,_,_,_,_,_,_,_,_,_,_,_,_,_,_,_,_,_,_,_⟩,rfl,rfl,{ hR with hc := (((hc.store hm9 hw9 hn9 0 (.bool (!(decide (n = 0)))) (by simp)).store (List.mem_cons_self ..) hw9 hn9 1 (.slice a n cap) (by simp)).store (List.mem_cons_self ..) hw9 hn9 2 (.slice a' n' cap') (by simp)),o0_0 := (fun h => Bool.noConfusion h),o0_1 := (fun _ => List.mem_cons_self ..),g9_8 := (fun _ => rfl) }⟩
  ·obtain ⟨⟨b0,b1,b2,b3,b4,b5,b6,b7,b8,b9,b10,v0,v1,v2,v3,v4,v5,v6,v7,v8,v10,bs9,os9⟩,rfl,rfl,hR⟩ := hI9
   have hc := hR.hc
   obtain rfl : b10 = false := by simpa using hl9
   clear hl9
   clear hi9
   replace hc := hR.hc
   refine wpOp_step rfl (fun K hK => ?_)
   go_simp
   exact hK _ _ ⟨⟨_,_,_,_,_,_,_,_,_,_,_,_,_,_,_,_,_,_,_,_,_,_,_⟩,rfl,rfl,{ hR with hc := hc,f10 := (fun _ => rfl) }⟩
 ·rintro l act Wq1 ⟨⟨b0,b1,b2,b3,b4,b5,b6,b7,b8,b9,b10,v0,v1,v2,v3,v4,v5,v6,v7,v8,v10,bs9,os9⟩,rfl,rfl,hR⟩ hr9
  obtain ⟨hc,f0,f1,f2,f3,f4,f5,f6,f7,f8,f10,o0_0,o0_1,g9_8⟩ := hR
  have eall := all_done hr9 (by kernel_rfl) rfl
  obtain rfl : b0 = true := eall 0 (by decide)
  obtain rfl : b1 = true := eall 1 (by decide)
  obtain rfl : b2 = true := eall 2 (by decide)
  obtain rfl : b3 = true := eall 3 (by decide)
  obtain rfl : b4 = true := eall 4 (by decide)
  obtain rfl : b5 = true := eall 5 (by decide)
  obtain rfl : b6 = true := eall 6 (by decide)
  obtain rfl : b7 = true := eall 7 (by decide)
  obtain rfl : b8 = true := eall 8 (by decide)
  obtain rfl : b9 = true := eall 9 (by decide)
  obtain rfl : b10 = true := eall 10 (by decide)
  clear hr9 eall
  have h9 := f0 rfl
  subst h9
  have h9 := f1 rfl
  subst h9
  have h9 := f2 rfl
  subst h9
  have h9 := f3 rfl
  subst h9
  have h9 := f4 rfl
  subst h9
  have h9 := f5 rfl
  subst h9
  have h9 := f6 rfl
  subst h9
  have h9 := f7 rfl
  subst h9
  have h9 := f8 rfl
  subst h9
  have h9 := f10 rfl
  subst h9
  have hbs9 : ∀ x,x ∈ ([⟨w.heap.size + 1 + 1,#[.bool (!(decide (n = 0))),.slice a n cap,.slice a' n' cap'],29⟩,⟨w.heap.size + 1,#[.slice a' n' cap'],27⟩,⟨w.heap.size,#[.slice a n cap],27⟩] : List En) → x ∈ bs9 := by
   intro x hx
   rcases List.mem_cons.1 hx with rfl | hx
   ·exact (o0_1 rfl)
   rcases List.mem_cons.1 hx with rfl | hx
   ·exact (hc.old _ (by simp)).1
   rcases List.mem_cons.1 hx with rfl | hx
   ·exact (hc.old _ (by simp)).1
   exact absurd hx List.not_mem_nil
  have hos9 : ∀ x,x ∈ ([] : Os) → x ∈ os9 := by
   intro x hx
   exact absurd hx List.not_mem_nil
  have hS := hc.st.sub hbs9 (fun x hx => hx) hos9
  have hsz9 := hc.sz
  rw [hS9z,hsW9] at hsz9
  clear hbs9 hos9 hc f0 f1 f2 f3 f4 f5 f6 f7 f8 f10 o0_0 o0_1 g9_8
  have hz1 := hsz9
  clear hsz9 hS9z hS9 hC9 hsW9
  obtain ⟨⟨k0_0,k0_1,k0_2,-⟩,z0⟩ := hS.cz ⟨w.heap.size + 1 + 1,#[.bool (!(decide (n = 0))),.slice a n cap,.slice a' n' cap'],29⟩ (by simp)
  have z0_0 := z0 0
  have z0_1 := z0 1
  have z0_2 := z0 2
  clear z0
  simp only [] at k0_0 z0_0 k0_1 z0_1 k0_2 z0_2
  go_wp2
  exact bodyPost_ret (v := .tuple #[RatV (!decide (n = 0)) a n cap a' n' cap',.int .i64 0]) (by simp [results,Try.results37,go_sem,RatV,k0_0,k0_1,k0_2]) rfl ⟨hS.wk,hS.fr,rfl⟩
 ·simp
 ·exact ⟨⟨false,false,false,false,false,false,false,false,false,false,false,undef,undef,undef,undef,undef,undef,undef,undef,undef,.int .i64 0,_,_⟩,rfl,rfl,⟨hC9,nb,nb,nb,nb,nb,nb,nb,nb,nb,nb,(fun _ => by simp),nb,nb⟩⟩
set_option maxHeartbeats 4000000 in
theorem wfrac_any (p : Nat) (e0 : Int) (s : Bool) (a a' : Option Addr) (n n' cap cap' : Nat) (w : World) (hk : Wk w p e0) :
  Calls Try.prog 37 #[.pointer (some ⟨p,0,none⟩),.bool s,.agg #[.slice a n cap],.agg #[.slice a' n' cap']] w fun en w' => Wk w' p e0 ∧ But p w w' ∧
   en = .returned (if e0 = 0 then .tuple #[RatV (s && !decide (n = 0)) a n cap a' n' cap',.int .i64 0] else .tuple #[RatV false none 0 0 none 0 0,.int .i64 e0]) := by
 by_cases h0 : e0 = 0
 ·subst h0
  cases s
  ·have hS := (((Rs.begin_work hk).alloc #[.slice a n cap] 27).alloc #[.slice a' n' cap'] 27).alloc #[.bool false,.slice a n cap,.slice a' n' cap'] 29
   have hcw := Wk.cell ((((hk.alloc (.cells #[.slice a n cap] 27)).alloc (.cells #[.slice a' n' cap'] 27)).alloc (.cells #[.bool false,.slice none 0 0,.slice none 0 0] 29)))
   go_enter Try.func37,Try.ntmps37
   go_wp2_with fail
   go_region
   go_wp2
   exact bodyPost_ret (v := .tuple #[RatV false a n cap a' n' cap',.int .i64 0]) (by simp [results,Try.results37,go_sem,RatV]) rfl ⟨hS.drew.wk,hS.drew.fr,by simp⟩
  ·exact (wfrac_true p a a' n n' cap cap' w hk).mono fun en w' ⟨h1,h2,h3⟩ => ⟨h1,h2,by rw [h3]; simp⟩
 ·have hS := (((Rs.begin_work hk).alloc #[.slice a n cap] 27).alloc #[.slice a' n' cap'] 27).alloc #[.bool false,.slice none 0 0,.slice none 0 0] 29
  have hcw := Wk.cell hS.wk
  have hb0 : (e0 != 0) = true := by simp [h0]
  have H0 := hide h0
  clear h0
  go_enter Try.func37,Try.ntmps37
  go_wp2_with fail
  go_region
  go_wp2
  exact bodyPost_ret (v := .tuple #[RatV false none 0 0 none 0 0,.int .i64 e0]) (by simp [results,Try.results37,go_sem,RatV]) rfl ⟨hS.drew.wk,hS.drew.fr,by first | rfl | rw [if_neg (unhide H0)]⟩
def RAns (w : World) (base : Nat) (en : Ending) (s : Bool) (num den : Nat) : Prop :=
 (∃ a n c a' n' c',en = .returned (.tuple #[RatV (s && !decide (num = 0)) a n c a' n' c',.int .i64 0]) ∧ Mine w base a n c num ∧ Mine w base a' n' c' den) ∨
 (en = .returned (.tuple #[RatV false none 0 0 none 0 0,.int .i64 4]) ∧ (Over num ∨ Over den))
theorem W_frac {w0 W : World} {p : Nat} {e : Int} {bs : List En} {ms : Ms} {os : Os} (hS : Rs w0 W (some (p,e)) bs ms os) (s : Bool) (a a' : Option Addr) (n n' c c' : Nat) :
  Calls Try.prog 37 #[.pointer (some ⟨p,0,none⟩),.bool s,.agg #[.slice a n c],.agg #[.slice a' n' c']] W fun en W' => (∃ s' b k l b' k' l' r,en = .returned (.tuple #[.agg #[.bool s',.slice b k l,.slice b' k' l'],.int .i64 r]) ∧
   ((e = 0 ∧ r = 0 ∧ s' = (s && !decide (n = 0)) ∧ b = a ∧ k = n ∧ l = c ∧ b' = a' ∧ k' = n' ∧ l' = c') ∨ (e ≠ 0 ∧ r = e ∧ s' = false ∧ b = none ∧ k = 0 ∧ l = 0 ∧ b' = none ∧ k' = 0 ∧ l' = 0))) ∧ Rs w0 W' (some (p,e)) bs ms os ∧ W.heap.size ≤ W'.heap.size := by
 refine (wfrac_any p e s a a' n n' c c' W hS.wk).mono ?_
 rintro en W' ⟨h1,h2,rfl⟩
 refine ⟨?_,hS.call h2 h1,h2.size⟩
 by_cases h0 : e = 0
 ·rw [if_pos h0]
  exact ⟨_,_,_,_,_,_,_,_,rfl,Or.inl ⟨h0,rfl,rfl,rfl,rfl,rfl,rfl,rfl,rfl⟩⟩
 ·rw [if_neg h0]
  exact ⟨_,_,_,_,_,_,_,_,rfl,Or.inr ⟨h0,rfl,rfl,rfl,rfl,rfl,rfl,rfl,rfl⟩⟩
end Go.Proofs.Ytaiphahgjjjpbaa
namespace Go.Proofs.Ytaiphahgjjjpbaa
open Go.RowKit
def Sf (e : Int) (B : Prop) : Prop := e = 0 ∨ (e = 4 ∧ B)
theorem Wz.next {e e' : Int} {M X : Nat} {O B : Prop} (q : Wz e e' M X O) (h : Sf e B) (hO : e = 0 → O → B) : Sf e' B := by
 rcases h with h | ⟨h,hB⟩
 ·by_cases h' : e' = 0
  ·exact Or.inl h'
  ·obtain ⟨h4,o⟩ := q.many h h'
   exact Or.inr ⟨h4,hO h o⟩
 ·have := q.stay (by omega)
  exact Or.inr ⟨by omega,hB⟩
theorem Wd.next {e e' : Int} {Q R m d : Nat} {B : Prop} (q : Wd e e' Q R m d) (h : Sf e B) (hd : e = 0 → 0 < d) : Sf e' B := by
 rcases h with h | ⟨h,hB⟩
 ·by_cases h' : e' = 0
  ·exact Or.inl h'
  ·have := q.zero h h'
   have := hd h
   omega
 ·have := q.stay (by omega)
  exact Or.inr ⟨by omega,hB⟩
theorem Over.mono {a b : Nat} (h : Over a) (hab : a ≤ b) : Over b := ⟨Nat.le_trans h.le hab⟩
theorem prod_end {m1 d1 m2 d2 M1 M2 Q1 Q2 N P1 P2 D : Nat} {e1 e2 e3 e4 e5 e6 e7 e8 : Int} (hd1 : 0 < d1) (hd2 : 0 < d2) (q1 : Wz 0 e1 M1 (Nat.gcd m1 d2) False) (q2 : Wz e1 e2 M2 (Nat.gcd m2 d1) False)
  (q3 : ∃ R,Wd e2 e3 Q1 R m1 M1) (q4 : ∃ R,Wd e3 e4 Q2 R m2 M2) (q5 : Wz e4 e5 N (Q1 * Q2) (Over (Q1 * Q2))) (q6 : ∃ R,Wd e5 e6 P1 R d1 M2) (q7 : ∃ R,Wd e6 e7 P2 R d2 M1) (q8 : Wz e7 e8 D (P1 * P2) (Over (P1 * P2))) :
  (e8 = 0 → N = m1 / Nat.gcd m1 d2 * (m2 / Nat.gcd m2 d1) ∧ D = d1 / Nat.gcd m2 d1 * (d2 / Nat.gcd m1 d2)) ∧ (e8 ≠ 0 → e8 = 4 ∧ (Over (m1 / Nat.gcd m1 d2 * (m2 / Nat.gcd m2 d1)) ∨ Over (d1 / Nat.gcd m2 d1 * (d2 / Nat.gcd m1 d2)))) := by
 obtain ⟨R3,q3⟩ := q3
 obtain ⟨R4,q4⟩ := q4
 obtain ⟨R6,q6⟩ := q6
 obtain ⟨R7,q7⟩ := q7
 have p1 : 0 < Nat.gcd m1 d2 := Nat.gcd_pos_of_pos_right _ hd2
 have p2 : 0 < Nat.gcd m2 d1 := Nat.gcd_pos_of_pos_right _ hd1
 generalize Nat.gcd m1 d2 = G1 at *
 generalize Nat.gcd m2 d1 = G2 at *
 have f1 : e1 = 0 → M1 = G1 := fun h => (q1.ok h).2
 have f2 : e2 = 0 → M1 = G1 ∧ M2 = G2 := fun h => ⟨f1 (q2.ok h).1,(q2.ok h).2⟩
 have f3 : e3 = 0 → M1 = G1 ∧ M2 = G2 ∧ Q1 = m1 / G1 := fun h => by have k := q3.ok h; have l := f2 k.1; exact ⟨l.1,l.2,by rw [k.2.1,l.1]⟩
 have f4 : e4 = 0 → M1 = G1 ∧ M2 = G2 ∧ Q1 = m1 / G1 ∧ Q2 = m2 / G2 := fun h => by have k := q4.ok h; have l := f3 k.1; exact ⟨l.1,l.2.1,l.2.2,by rw [k.2.1,l.2.1]⟩
 have f5 : e5 = 0 → M1 = G1 ∧ M2 = G2 ∧ N = m1 / G1 * (m2 / G2) := fun h => by have k := q5.ok h; have l := f4 k.1; exact ⟨l.1,l.2.1,by rw [k.2,l.2.2.1,l.2.2.2]⟩
 have f6 : e6 = 0 → M1 = G1 ∧ M2 = G2 ∧ N = m1 / G1 * (m2 / G2) ∧ P1 = d1 / G2 := fun h => by have k := q6.ok h; have l := f5 k.1; exact ⟨l.1,l.2.1,l.2.2,by rw [k.2.1,l.2.1]⟩
 have f7 : e7 = 0 → N = m1 / G1 * (m2 / G2) ∧ P1 = d1 / G2 ∧ P2 = d2 / G1 := fun h => by have k := q7.ok h; have l := f6 k.1; exact ⟨l.2.2.1,l.2.2.2,by rw [k.2.1,l.1]⟩
 refine ⟨fun h => ?_,fun h => ?_⟩
 ·have k := q8.ok h
  have l := f7 k.1
  exact ⟨l.1,by rw [k.2,l.2.1,l.2.2]⟩
 ·have s1 : Sf e1 (Over (m1 / G1 * (m2 / G2)) ∨ Over (d1 / G2 * (d2 / G1))) := q1.next (Or.inl rfl) (fun _ h => h.elim)
  have s2 := q2.next s1 (fun _ h => h.elim)
  have s3 := q3.next s2 (fun h => by rw [(f2 h).1]; exact p1)
  have s4 := q4.next s3 (fun h => by rw [(f3 h).2.1]; exact p2)
  have s5 := q5.next s4 (fun h o => by have l := f4 h; rw [l.2.2.1,l.2.2.2] at o; exact Or.inl o)
  have s6 := q6.next s5 (fun h => by rw [(f5 h).2.1]; exact p2)
  have s7 := q7.next s6 (fun h => by rw [(f6 h).1]; exact p1)
  have s8 := q8.next s7 (fun h o => by have l := f7 h; rw [l.2.1,l.2.2] at o; exact Or.inr o)
  rcases s8 with s8 | s8
  ·exact absurd s8 h
  ·exact s8
end Go.Proofs.Ytaiphahgjjjpbaa
namespace Go.Proofs.Ytaiphahgjjjpbaa
open Go.RowKit
def DsAns (p : Nat) (e0 : Int) (w : World) (X : Nat) (en : Ending) (w' : World) : Prop := ∃ a n c M e,en = .returned (.agg #[.slice a n c]) ∧ Mine w' w.heap.size a n c M ∧ Wz e0 e M X False ∧ Wk w' p e ∧ But p w w'
set_option maxRecDepth 20000 in
set_option maxHeartbeats 8000000 in
theorem dist_lt (p : Nat) (e0 : Int) (a1 a2 : Option Addr) (n1 n2 c1 c2 m1 m2 : Nat) (w : World) (hk : Wk w p e0) (h1 : Num w a1 n1 m1) (h2 : Num w a2 n2 m2) (hcm : cmpI m1 m2 = -1) :
  Calls Try.prog 89 #[.pointer (some ⟨p,0,none⟩),.agg #[.slice a1 n1 c1],.agg #[.slice a2 n2 c2]] w (DsAns p e0 w (m2 - m1)) := by
 have hpl := hk.lt
 have hS := Rs.begin_work hk
 replace hS := hS.num h1
 replace hS := hS.num h2
 replace hS := hS.alloc #[.slice a1 n1 c1] 27
 try simp only [World.size_alloc] at hS
 replace hS := hS.alloc #[.slice a2 n2 c2] 27
 try simp only [World.size_alloc] at hS
 replace hS := hS.alloc #[.slice none 0 0] 27
 try simp only [World.size_alloc] at hS
 go_enter Try.func89,Try.ntmps89
 go_wp2_with fail
 refine (W_cmp hS c1 c2 (hS.nm (a1,n1,m1) (by simp)) (hS.nm (a2,n2,m2) (by simp))).mono ?_
 clear hS; rintro en w1 ⟨rfl,hS,hz1⟩
 simp only [World.size_alloc] at hz1
 rw [hcm]
 obtain ⟨⟨k0_0,-⟩,z0⟩ := hS.cz ⟨w.heap.size + 1 + 1,#[.slice none 0 0],27⟩ (by simp)
 have z0_0 := z0 0
 clear z0
 obtain ⟨⟨k1_0,-⟩,z1⟩ := hS.cz ⟨w.heap.size + 1,#[.slice a2 n2 c2],27⟩ (by simp)
 have z1_0 := z1 0
 clear z1
 obtain ⟨⟨k2_0,-⟩,z2⟩ := hS.cz ⟨w.heap.size,#[.slice a1 n1 c1],27⟩ (by simp)
 have z2_0 := z2 0
 clear z2
 simp only [] at k0_0 z0_0 k1_0 z1_0 k2_0 z2_0
 go_wp2_with fail
 clear k0_0 z0_0 k1_0 z1_0 k2_0 z2_0
 have u1 := hS.cellAt (x := ⟨w.heap.size,#[.slice a1 n1 c1],27⟩) (by simp) 0 (.slice a1 n1 c1) rfl
 have y1 := hS.frozen (x := ⟨w.heap.size,#[.slice a1 n1 c1],27⟩) (by simp) 0
 simp only [] at u1 y1
 replace hS := hS.put (x := ⟨w.heap.size,#[.slice a1 n1 c1],27⟩) (by simp) (by simp only []; omega) 0 (.slice a2 n2 c2) (by simp) [⟨w.heap.size,#[.slice a2 n2 c2],27⟩,⟨w.heap.size + 1 + 1,#[.slice none 0 0],27⟩,⟨w.heap.size + 1,#[.slice a2 n2 c2],27⟩] (by intro y hy; rcases List.mem_cons.1 hy with rfl | hy; exact Or.inl rfl; rcases List.mem_cons.1 hy with rfl | hy; exact Or.inr ⟨by simp,by simp only []; omega⟩; rcases List.mem_cons.1 hy with rfl | hy; exact Or.inr ⟨by simp,by simp only []; omega⟩; exact absurd hy List.not_mem_nil)
 have u2 := hS.cellAt (x := ⟨w.heap.size + 1,#[.slice a2 n2 c2],27⟩) (by simp) 0 (.slice a2 n2 c2) rfl
 have y2 := hS.frozen (x := ⟨w.heap.size + 1,#[.slice a2 n2 c2],27⟩) (by simp) 0
 simp only [] at u2 y2
 replace hS := hS.put (x := ⟨w.heap.size + 1,#[.slice a2 n2 c2],27⟩) (by simp) (by simp only []; omega) 0 (.slice a1 n1 c1) (by simp) [⟨w.heap.size + 1,#[.slice a1 n1 c1],27⟩,⟨w.heap.size,#[.slice a2 n2 c2],27⟩,⟨w.heap.size + 1 + 1,#[.slice none 0 0],27⟩] (by intro y hy; rcases List.mem_cons.1 hy with rfl | hy; exact Or.inl rfl; rcases List.mem_cons.1 hy with rfl | hy; exact Or.inr ⟨by simp,by simp only []; omega⟩; rcases List.mem_cons.1 hy with rfl | hy; exact Or.inr ⟨by simp,by simp only []; omega⟩; exact absurd hy List.not_mem_nil)
 refine (W_sub hS c2 c1 (hS.nm (a2,n2,m2) (by simp)) (hS.nm (a1,n1,m1) (by simp))).mono ?_
 clear hS; rintro en w2 ⟨yA2,yN2,yC2,yM2,yE2,rfl,hS,q2,hz2⟩
 have Q2 := hide q2
 clear q2
 replace hz2 : w1.heap.size ≤ w2.heap.size := by simpa [World.setCell] using hz2
 obtain ⟨⟨k0_0,-⟩,z0⟩ := hS.cz ⟨w.heap.size + 1 + 1,#[.slice none 0 0],27⟩ (by simp)
 have z0_0 := z0 0
 clear z0
 simp only [] at k0_0 z0_0
 go_wp2
 replace hS := hS.sub (bs' := [⟨w.heap.size + 1 + 1,#[.slice none 0 0],27⟩]) (ms' := []) (by intro x hx; rcases List.mem_cons.1 hx with rfl | hx; simp; exact absurd hx List.not_mem_nil) (by intro x hx; exact absurd hx List.not_mem_nil) (fun x hx => hx)
 have u3 := hS.cellAt (x := ⟨w.heap.size + 1 + 1,#[.slice none 0 0],27⟩) (by simp) 0 (.slice none 0 0) rfl
 have y3 := hS.frozen (x := ⟨w.heap.size + 1 + 1,#[.slice none 0 0],27⟩) (by simp) 0
 simp only [] at u3 y3
 replace hS := hS.put (x := ⟨w.heap.size + 1 + 1,#[.slice none 0 0],27⟩) (by simp) (by simp only []; omega) 0 (.slice yA2 yN2 yC2) (by simp) [⟨w.heap.size + 1 + 1,#[.slice yA2 yN2 yC2],27⟩] (by intro y hy; rcases List.mem_cons.1 hy with rfl | hy; exact Or.inl rfl; exact absurd hy List.not_mem_nil)
 exact bodyPost_ret (v := .agg #[.slice yA2 yN2 yC2]) (by simp [results,Try.results89,go_sem,k0_0]) rfl ⟨_,_,_,_,_,rfl,hS.ow (yA2,yN2,yC2,yM2) (by simp),unhide Q2,hS.wk,hS.fr⟩
set_option maxRecDepth 20000 in
set_option maxHeartbeats 8000000 in
theorem dist_ge (p : Nat) (e0 : Int) (a1 a2 : Option Addr) (n1 n2 c1 c2 m1 m2 : Nat) (w : World) (hk : Wk w p e0) (h1 : Num w a1 n1 m1) (h2 : Num w a2 n2 m2) (r0 : Int) (hr0 : 0 ≤ r0) (hcm : cmpI m1 m2 = r0) :
  Calls Try.prog 89 #[.pointer (some ⟨p,0,none⟩),.agg #[.slice a1 n1 c1],.agg #[.slice a2 n2 c2]] w (DsAns p e0 w (m1 - m2)) := by
 have hpl := hk.lt
 have hS := Rs.begin_work hk
 replace hS := hS.num h1
 replace hS := hS.num h2
 replace hS := hS.alloc #[.slice a1 n1 c1] 27
 try simp only [World.size_alloc] at hS
 replace hS := hS.alloc #[.slice a2 n2 c2] 27
 try simp only [World.size_alloc] at hS
 replace hS := hS.alloc #[.slice none 0 0] 27
 try simp only [World.size_alloc] at hS
 go_enter Try.func89,Try.ntmps89
 go_wp2_with fail
 refine (W_cmp hS c1 c2 (hS.nm (a1,n1,m1) (by simp)) (hS.nm (a2,n2,m2) (by simp))).mono ?_
 clear hS; rintro en w1 ⟨rfl,hS,hz1⟩
 simp only [World.size_alloc] at hz1
 rw [hcm]
 obtain ⟨⟨k0_0,-⟩,z0⟩ := hS.cz ⟨w.heap.size + 1 + 1,#[.slice none 0 0],27⟩ (by simp)
 have z0_0 := z0 0
 clear z0
 obtain ⟨⟨k1_0,-⟩,z1⟩ := hS.cz ⟨w.heap.size + 1,#[.slice a2 n2 c2],27⟩ (by simp)
 have z1_0 := z1 0
 clear z1
 obtain ⟨⟨k2_0,-⟩,z2⟩ := hS.cz ⟨w.heap.size,#[.slice a1 n1 c1],27⟩ (by simp)
 have z2_0 := z2 0
 clear z2
 simp only [] at k0_0 z0_0 k1_0 z1_0 k2_0 z2_0
 go_wp2_with fail
 clear k0_0 z0_0 k1_0 z1_0 k2_0 z2_0
 refine (W_sub hS c1 c2 (hS.nm (a1,n1,m1) (by simp)) (hS.nm (a2,n2,m2) (by simp))).mono ?_
 clear hS; rintro en w2 ⟨yA2,yN2,yC2,yM2,yE2,rfl,hS,q2,hz2⟩
 have Q2 := hide q2
 clear q2
 obtain ⟨⟨k0_0,-⟩,z0⟩ := hS.cz ⟨w.heap.size + 1 + 1,#[.slice none 0 0],27⟩ (by simp)
 have z0_0 := z0 0
 clear z0
 simp only [] at k0_0 z0_0
 go_wp2
 replace hS := hS.sub (bs' := [⟨w.heap.size + 1 + 1,#[.slice none 0 0],27⟩]) (ms' := []) (by intro x hx; rcases List.mem_cons.1 hx with rfl | hx; simp; exact absurd hx List.not_mem_nil) (by intro x hx; exact absurd hx List.not_mem_nil) (fun x hx => hx)
 have u1 := hS.cellAt (x := ⟨w.heap.size + 1 + 1,#[.slice none 0 0],27⟩) (by simp) 0 (.slice none 0 0) rfl
 have y1 := hS.frozen (x := ⟨w.heap.size + 1 + 1,#[.slice none 0 0],27⟩) (by simp) 0
 simp only [] at u1 y1
 replace hS := hS.put (x := ⟨w.heap.size + 1 + 1,#[.slice none 0 0],27⟩) (by simp) (by simp only []; omega) 0 (.slice yA2 yN2 yC2) (by simp) [⟨w.heap.size + 1 + 1,#[.slice yA2 yN2 yC2],27⟩] (by intro y hy; rcases List.mem_cons.1 hy with rfl | hy; exact Or.inl rfl; exact absurd hy List.not_mem_nil)
 exact bodyPost_ret (v := .agg #[.slice yA2 yN2 yC2]) (by simp [results,Try.results89,go_sem,k0_0]) rfl ⟨_,_,_,_,_,rfl,hS.ow (yA2,yN2,yC2,yM2) (by simp),unhide Q2,hS.wk,hS.fr⟩
theorem distance_any (p : Nat) (e0 : Int) (a1 a2 : Option Addr) (n1 n2 c1 c2 m1 m2 : Nat) (w : World) (hk : Wk w p e0) (h1 : Num w a1 n1 m1) (h2 : Num w a2 n2 m2) :
  Calls Try.prog 89 #[.pointer (some ⟨p,0,none⟩),.agg #[.slice a1 n1 c1],.agg #[.slice a2 n2 c2]] w (DsAns p e0 w (Rm.dist m1 m2)) := by
 by_cases h : m1 < m2
 ·have hd : Rm.dist m1 m2 = m2 - m1 := by rw [Rm.dist,if_pos h]
  rw [hd]
  exact dist_lt p e0 a1 a2 n1 n2 c1 c2 m1 m2 w hk h1 h2 (by rw [cmpI,if_pos h])
 ·have hd : Rm.dist m1 m2 = m1 - m2 := by rw [Rm.dist,if_neg h]
  rw [hd]
  by_cases h' : m1 = m2
  ·exact dist_ge p e0 a1 a2 n1 n2 c1 c2 m1 m2 w hk h1 h2 0 (by omega) (by rw [cmpI,if_neg h,if_pos h'])
  ·exact dist_ge p e0 a1 a2 n1 n2 c1 c2 m1 m2 w hk h1 h2 1 (by omega) (by rw [cmpI,if_neg h,if_neg h'])
theorem W_dist {w0 W : World} {p : Nat} {e : Int} {bs : List En} {ms : Ms} {os : Os} (hS : Rs w0 W (some (p,e)) bs ms os) {a a' : Option Addr} {n n' m m' : Nat} (c c' : Nat) (h : Num W a n m) (h' : Num W a' n' m') :
  Calls Try.prog 89 #[.pointer (some ⟨p,0,none⟩),.agg #[.slice a n c],.agg #[.slice a' n' c']] W (One w0 W p e bs ms os (Rm.dist m m') False) := by
 refine (distance_any p e a a' n n' c c' m m' W hS.wk h h').mono ?_
 rintro en W' ⟨a1,n1,c1,M,r,rfl,hm,hst,hk,hb⟩
 exact ⟨a1,n1,c1,M,_,rfl,hS.more hm hk hb,hst,hb.size⟩
end Go.Proofs.Ytaiphahgjjjpbaa
namespace Go.Proofs.Ytaiphahgjjjpbaa
open Go.RowKit
set_option maxRecDepth 20000 in
set_option maxHeartbeats 4000000 in
theorem below_lt (p : Nat) (e0 : Int) (br : Bool) (a1 a2 a3 a4 a5 : Option Addr) (n1 n2 n3 n4 n5 c1 c2 c3 c4 c5 m1 m2 m3 m4 : Nat) (w : World) (hk : Wk w p e0) (h1 : Num w a1 n1 m1) (h2 : Num w a2 n2 m2) (h3 : Num w a3 n3 m3) (h4 : Num w a4 n4 m4) (hcm : cmpI m1 m2 = -1) :
  Calls Try.prog 70 #[.agg #[.slice a1 n1 c1,.slice a2 n2 c2,.slice a3 n3 c3,.slice a4 n4 c4,.slice a5 n5 c5,.bool br],.pointer (some ⟨p,0,none⟩)] w (fun en w' => en = .returned (.bool true) ∧ Wk w' p e0 ∧ But p w w') := by
 have hS := Rs.begin_work hk
 replace hS := hS.num h1
 replace hS := hS.num h2
 replace hS := hS.num h3
 replace hS := hS.num h4
 replace hS := hS.alloc #[.slice a1 n1 c1,.slice a2 n2 c2,.slice a3 n3 c3,.slice a4 n4 c4,.slice a5 n5 c5,.bool br] 101
 try simp only [World.size_alloc] at hS
 go_enter Try.func70,Try.ntmps70
 go_wp2_with fail
 refine (W_cmp hS c1 c2 (hS.nm (a1,n1,m1) (by simp)) (hS.nm (a2,n2,m2) (by simp))).mono ?_
 clear hS; rintro en w1 ⟨rfl,hS,hz1⟩
 simp only [World.size_alloc] at hz1
 rw [hcm]
 go_wp2
 go_ret
 exact ⟨rfl,hS.wk,hS.fr⟩
set_option maxRecDepth 20000 in
set_option maxHeartbeats 4000000 in
theorem below_gt (p : Nat) (e0 : Int) (br : Bool) (a1 a2 a3 a4 a5 : Option Addr) (n1 n2 n3 n4 n5 c1 c2 c3 c4 c5 m1 m2 m3 m4 : Nat) (w : World) (hk : Wk w p e0) (h1 : Num w a1 n1 m1) (h2 : Num w a2 n2 m2) (h3 : Num w a3 n3 m3) (h4 : Num w a4 n4 m4) (hcm : cmpI m1 m2 = 1) :
  Calls Try.prog 70 #[.agg #[.slice a1 n1 c1,.slice a2 n2 c2,.slice a3 n3 c3,.slice a4 n4 c4,.slice a5 n5 c5,.bool br],.pointer (some ⟨p,0,none⟩)] w (fun en w' => en = .returned (.bool false) ∧ Wk w' p e0 ∧ But p w w') := by
 have hS := Rs.begin_work hk
 replace hS := hS.num h1
 replace hS := hS.num h2
 replace hS := hS.num h3
 replace hS := hS.num h4
 replace hS := hS.alloc #[.slice a1 n1 c1,.slice a2 n2 c2,.slice a3 n3 c3,.slice a4 n4 c4,.slice a5 n5 c5,.bool br] 101
 try simp only [World.size_alloc] at hS
 go_enter Try.func70,Try.ntmps70
 go_wp2_with fail
 refine (W_cmp hS c1 c2 (hS.nm (a1,n1,m1) (by simp)) (hS.nm (a2,n2,m2) (by simp))).mono ?_
 clear hS; rintro en w1 ⟨rfl,hS,hz1⟩
 simp only [World.size_alloc] at hz1
 rw [hcm]
 go_wp2
 go_ret
 exact ⟨rfl,hS.wk,hS.fr⟩
set_option maxRecDepth 20000 in
set_option maxHeartbeats 4000000 in
theorem below_eq (p : Nat) (e0 : Int) (br : Bool) (a1 a2 a3 a4 a5 : Option Addr) (n1 n2 n3 n4 n5 c1 c2 c3 c4 c5 m1 m2 m3 m4 : Nat) (w : World) (hk : Wk w p e0) (h1 : Num w a1 n1 m1) (h2 : Num w a2 n2 m2) (h3 : Num w a3 n3 m3) (h4 : Num w a4 n4 m4) (hcm : cmpI m1 m2 = 0) :
  Calls Try.prog 70 #[.agg #[.slice a1 n1 c1,.slice a2 n2 c2,.slice a3 n3 c3,.slice a4 n4 c4,.slice a5 n5 c5,.bool br],.pointer (some ⟨p,0,none⟩)] w (fun en w' => en = .returned (.bool (decide (cmpI m3 m4 < 0))) ∧ Wk w' p e0 ∧ But p w w') := by
 have hS := Rs.begin_work hk
 replace hS := hS.num h1
 replace hS := hS.num h2
 replace hS := hS.num h3
 replace hS := hS.num h4
 replace hS := hS.alloc #[.slice a1 n1 c1,.slice a2 n2 c2,.slice a3 n3 c3,.slice a4 n4 c4,.slice a5 n5 c5,.bool br] 101
 try simp only [World.size_alloc] at hS
 go_enter Try.func70,Try.ntmps70
 go_wp2_with fail
 refine (W_cmp hS c1 c2 (hS.nm (a1,n1,m1) (by simp)) (hS.nm (a2,n2,m2) (by simp))).mono ?_
 clear hS; rintro en w1 ⟨rfl,hS,hz1⟩
 simp only [World.size_alloc] at hz1
 rw [hcm]
 obtain ⟨⟨k0_0,k0_1,k0_2,k0_3,k0_4,k0_5,-⟩,z0⟩ := hS.cz ⟨w.heap.size,#[.slice a1 n1 c1,.slice a2 n2 c2,.slice a3 n3 c3,.slice a4 n4 c4,.slice a5 n5 c5,.bool br],101⟩ (by simp)
 have z0_0 := z0 0
 have z0_1 := z0 1
 have z0_2 := z0 2
 have z0_3 := z0 3
 have z0_4 := z0 4
 have z0_5 := z0 5
 clear z0
 simp only [] at k0_0 z0_0 k0_1 z0_1 k0_2 z0_2 k0_3 z0_3 k0_4 z0_4 k0_5 z0_5
 go_wp2_with fail
 clear k0_0 z0_0 k0_1 z0_1 k0_2 z0_2 k0_3 z0_3 k0_4 z0_4 k0_5 z0_5
 refine (W_cmp hS c3 c4 (hS.nm (a3,n3,m3) (by simp)) (hS.nm (a4,n4,m4) (by simp))).mono ?_
 clear hS; rintro en w2 ⟨rfl,hS,hz2⟩
 obtain ⟨r,hr⟩ : ∃ r,r = cmpI m3 m4 := ⟨_,rfl⟩
 rw [← hr]
 have HR := hide hr
 clear hr
 go_wp2
 go_ret
 exact ⟨ret_bool (by rw [unhide HR]),hS.wk,hS.fr⟩
theorem W_below {w0 W : World} {p : Nat} {e : Int} {bs : List En} {ms : Ms} {os : Os} (hS : Rs w0 W (some (p,e)) bs ms os) (br : Bool) (a5 : Option Addr) (n5 c5 : Nat) {a1 a2 a3 a4 : Option Addr} {n1 n2 n3 n4 m1 m2 m3 m4 : Nat} (c1 c2 c3 c4 : Nat) (h1 : Num W a1 n1 m1) (h2 : Num W a2 n2 m2) (h3 : Num W a3 n3 m3) (h4 : Num W a4 n4 m4) :
  Calls Try.prog 70 #[.agg #[.slice a1 n1 c1,.slice a2 n2 c2,.slice a3 n3 c3,.slice a4 n4 c4,.slice a5 n5 c5,.bool br],.pointer (some ⟨p,0,none⟩)] W (fun en W' => en = .returned (.bool (decide (m1 < m2 ∨ m1 = m2 ∧ m3 < m4))) ∧ Rs w0 W' (some (p,e)) bs ms os ∧ W.heap.size ≤ W'.heap.size) := by
 rcases Nat.lt_trichotomy m1 m2 with h | h | h
 ·refine (below_lt p e br a1 a2 a3 a4 a5 n1 n2 n3 n4 n5 c1 c2 c3 c4 c5 m1 m2 m3 m4 W hS.wk h1 h2 h3 h4 (by rw [cmpI,if_pos h])).mono ?_
  rintro en W' ⟨rfl,hk,hb⟩
  exact ⟨ret_bool (by simp [h]),hS.call hb hk,hb.size⟩
 ·refine (below_eq p e br a1 a2 a3 a4 a5 n1 n2 n3 n4 n5 c1 c2 c3 c4 c5 m1 m2 m3 m4 W hS.wk h1 h2 h3 h4 (by rw [cmpI,if_neg (by omega),if_pos h])).mono ?_
  rintro en W' ⟨rfl,hk,hb⟩
  refine ⟨ret_bool ?_,hS.call hb hk,hb.size⟩
  rw [decide_eq_decide]
  unfold cmpI
  split
  ·simp; omega
  ·split <;> simp <;> omega
 ·refine (below_gt p e br a1 a2 a3 a4 a5 n1 n2 n3 n4 n5 c1 c2 c3 c4 c5 m1 m2 m3 m4 W hS.wk h1 h2 h3 h4 (by rw [cmpI,if_neg (by omega),if_neg (by omega)])).mono ?_
  rintro en W' ⟨rfl,hk,hb⟩
  exact ⟨ret_bool (by rw [eq_comm,decide_eq_false_iff_not]; omega),hS.call hb hk,hb.size⟩
end Go.Proofs.Ytaiphahgjjjpbaa
