/- Of what ExactValuesRow stands on: UpOver UpDown BookG Book4 RefBits Bad LowBig. -/
import Derived.Test.YtecmcjlgknfnlaaDoorPag
import Derived.Test.YtecmcjlgknfnlaaDoorPai
import Derived.Test.YtecmcjlgknfnlaaDoorPaf
import Derived.Test.YtecmcjlgknfnlaaDoorPaa
import Derived.Maps.AppendAt
import Derived.Laws.OwnMore
namespace Go.Proofs.YtecmcjlgknfnlaaDoor
open Go.RowKit
end Go.Proofs.YtecmcjlgknfnlaaDoor
namespace Go.Proofs.YtecmcjlgknfnlaaDoor
open Go.RowKit
theorem check_num (a : Option Addr) (n cap m : Nat) (w : World) (h : Num w a n m) :
  Calls Tryd.prog 39 #[.agg #[.slice a n cap]] w fun e w' => e = .returned (.int .i64 0) ∧ Below w.heap.size w w' := by
 obtain ⟨xs,hn,hl,hw,hN,hv,hb⟩ := h
 have := check_any a cap xs w (by omega) hl
 rw [hn,chk_ok (by omega) hN] at this
 exact this
theorem Mine.cap {w : World} {base : Nat} {a : Option Addr} {n cap m : Nat} (h : Mine w base a n cap m) : n ≤ cap ∧ cap ≤ 9223372036854775807 := by
 obtain ⟨xs,hn,ho,_⟩ := h
 obtain ⟨a',c',e,h1,h2,_⟩ := ho.lim
 injection e with e1 e2 e3
 omega
theorem bl_ex (m : Nat) : ∃ j,Bl m j := by
 induction m using Nat.strongRecOn with
 | ind m ih =>
  by_cases h : m = 0
  ·exact ⟨0,by subst h; exact bl_zero⟩
  ·obtain ⟨j,h1,h2⟩ := ih (m / 2) (by omega)
   refine ⟨j + 1,by rw [Nat.pow_succ]; omega,Or.inr ?_⟩
   rw [Nat.add_sub_cancel]
   rcases h2 with h2 | h2
   ·subst h2; simp; omega
   ·by_cases hj : j = 0
    ·subst hj; simp; omega
    ·have : 2 ^ j = 2 ^ (j - 1) * 2 := by rw [← Nat.pow_succ]; congr 1; omega
     omega
set_option maxHeartbeats 800000 in
theorem down_any (a : Option Addr) (n cap m k : Nat) (w : World) (h : Num w a n m) (hcap : n ≤ cap) (hcap2 : cap ≤ 9223372036854775807) (hk : k < 9223372036854775808) :
  Calls Tryd.prog 42 #[.agg #[.slice a n cap],.int .i64 (k : Int)] w fun e w' => (∃ a' n' c',e = .returned (.tuple #[.agg #[.slice a' n' c'],.int .i64 0]) ∧ Mine w' w.heap.size a' n' c' (m / 2 ^ k)) ∧ Below w.heap.size w w' := by
 have HS := hide (fun w1 h => shiftDown_any a n cap m k w1 h hcap hcap2 hk)
 have HK := hide (fun (o1 o2 : Obj) => check_num a n cap m ((w.alloc o1).alloc o2) ((h.alloc o1).alloc o2))
 have H := hide h
 clear h hcap hcap2
 go_enter Tryd.func42,Tryd.ntmps42
 go_wp2_with fail
 refine (unhide HK _ _).mono ?_
 rintro e w1 ⟨rfl,hb1⟩
 have hbx := ((Box.made w (.slice a n cap)).alloc (.cells #[.slice none 0 0] 24)).kept hb1
 have hby := (Box.made (w.alloc (.cells #[.slice a n cap] 24)) (.slice none 0 0)).kept hb1
 simp only [World.size_alloc] at hby
 have hcx := hbx.cell
 have HB := hide (gr_trans (gr_trans (gr_alloc w (.cells #[.slice a n cap] 24)) (gr_alloc _ (.cells #[.slice none 0 0] 24))) hb1)
 clear hb1 HK
 go_wp2_with fail
 refine (unhide HS _ ((unhide H).kept (unhide HB))).mono ?_
 rintro e w2 ⟨⟨a2,n2,c2,rfl,hm2⟩,hb2⟩
 have hX2 := hby.kept hb2
 have hcx := hX2.cell
 have hfx := hX2.frozen
 have HM := hide (hm2.mono (unhide HB).size)
 have HB2 := hide (gr_trans (unhide HB) hb2)
 clear hm2 hb2
 go_wp2
 exact bodyPost_ret (v := .tuple #[.agg #[.slice a2 n2 c2],.int .i64 0]) (by simp [results,Tryd.results42,go_sem,hcx]) rfl ⟨⟨_,_,_,rfl,(unhide HM).setBox hX2 _⟩,(unhide HB2).setCell (Nat.le_add_right _ 1) _⟩
theorem ret_pair {a b : Bool} {v : Value} (h : a = b) : Ending.returned (.tuple #[.bool a,v]) = .returned (.tuple #[.bool b,v]) := by rw [h]
theorem beq_one (z : Nat) : (((z % 2 : Nat) : Int) == 1) = decide (z % 2 = 1) := by
 rw [Bool.eq_iff_iff,beq_iff_eq,decide_eq_true_eq]
 omega
theorem bit_row {xs : List Nat} (hw : Pl.Wf xs) (k : Nat) : Pl.val xs / 2 ^ k % 2 = xs[k / 32]?.getD 0 / 2 ^ (k % 32) % 2 := by
 have e : 2 ^ k = 4294967296 ^ (k / 32) * 2 ^ (k % 32) := by
  rw [show (4294967296 : Nat) = 2 ^ 32 from rfl,← Nat.pow_mul,← Nat.pow_add]
  congr 1; omega
 have hd : Pl.val xs / 4294967296 ^ (k / 32) = Pl.val (xs.drop (k / 32)) := by
  by_cases h : k / 32 ≤ xs.length
  ·have hlo := Pl.val_lt (Pl.wf_take hw (k / 32))
   rw [List.length_take,Nat.min_eq_left h] at hlo
   rw [Pl.val_split xs (k / 32) h,Nat.add_comm,Nat.mul_add_div (Nat.lt_of_le_of_lt (Nat.zero_le _) hlo),Nat.div_eq_of_lt hlo,Nat.add_zero]
  ·have h1 := Pl.val_lt hw
   have h2 := Pl.pow_le (show xs.length ≤ k / 32 by omega)
   rw [List.drop_eq_nil_of_le (by omega),Nat.div_eq_of_lt (Nat.lt_of_lt_of_le h1 h2)]
   rfl
 rw [e,← Nat.div_div_eq_div_mul,hd,val_mod xs hw (k / 32)]
 generalize Pl.val (xs.drop (k / 32)) = V
 have hp : k % 32 < 32 := by omega
 generalize k % 32 = p at *
 have hs := pow_split hp
 have hQ : 2 ^ (32 - p) = 2 * 2 ^ (31 - p) := by rw [show 32 - p = (31 - p) + 1 by omega,Nat.pow_succ,Nat.mul_comm]
 rw [hs,Nat.mod_mul_right_div_self,hQ,Nat.mod_mul_right_mod]
end Go.Proofs.YtecmcjlgknfnlaaDoor
namespace Go.Proofs.YtecmcjlgknfnlaaDoor
open Go.RowKit
theorem Tryd.info_nat : (Tryd.prog.info? 24).map (fun i => (i.zero,i.size,i.bytes)) = some (some (.agg #[.slice none 0 0]),1,24) := by kernel_rfl
theorem Tryd.under_nats : Tryd.prog.underlying 32 = some (.slice 24) := by kernel_rfl
theorem append_nat (W : World) (base n : Nat) (v : Value) (gs : List Value) (a : Option Addr) (k c : Nat) (h : W.ownsRow base 24 1 v n gs) (hb : base ≤ W.heap.size) (hn : n ≤ 1000) :
  ∃ v' W',(Builtin.append_ #[32,32] 32 #[v,.slice (some ⟨W.heap.size,0,none⟩) 1 1]).run Tryd.prog (W.alloc (.cells #[.slice a k c] 24)) = .ok v' W' ∧ W'.ownsRow base 24 1 v' (n + 1) (gs ++ [.slice a k c]) ∧ (W.alloc (.cells #[.slice a k c] 24)).grownBy W' v.ownBlock ∧ (v'.ownBlock = v.ownBlock ∨ v'.ownBlock = some (W.heap.size + 1)) := by
 obtain ⟨i0,hi,hz0,hz1,hz2⟩ := info_parts Tryd.info_nat
 obtain ⟨v',W',h1,h2,h3,_,h5⟩ := run_append_own_at (P := Tryd.prog) (w := W.alloc (.cells #[.slice a k c] 24)) base 32 32 24 i0 (.agg #[.slice none 0 0]) 1 24 Tryd.under_nats hi hz0 hz1 hz2 rfl (by decide) v n gs (h.alloc _) ⟨W.heap.size,0,none⟩ 1 1 [.slice a k c] rfl (cell_one_new _ _ _) (fun u hu => by simp at hu; subst hu; rfl) (by unfold maxLen; omega) (by omega) (by simp; omega)
 exact ⟨v',W',h1,h2,h3,by simpa using h5⟩
theorem ite_of {c : Prop} [Decidable c] {A B : Prop} (hc : c) (h : A) : if c then A else B := by rw [if_pos hc]; exact h
theorem step_append {P : Program} {ops : Array Oper} {Q : Exit → Act → World → Prop} {i : Nat} {o : Oper} {K : Act → World → Prop} {a : Act} {w w' : World} {v' : Value} (ho : ops[i]? = some o) (hg : o.guard = none) (s x : Operand) (t : TypeId)
  (hop : o.op = .call { callee := .builtin .append,args := #[s,x],argTypes := #[t,t] }) (hrun : (Builtin.append_ #[t,t] o.type #[a.eval s,a.eval x]).run P w = .ok v' w') (hK : K (a.put o.dst v') w') : wpOp P ops Q i K a w := by
 refine wpOp_step ho (fun K' hK' => ite_of ?_ ?_)
 ·unfold Region.wanted; rw [hg]
 ·unfold Oper.wp execOp
  simp only [hop,resolve,invoke,builtin,Sem.run_bind,Sem.run_pure,Result.andThen_ok,List.map_toArray,List.map_cons,List.map_nil,hrun]
  exact hK' _ _ hK
def wst (W W1 W2 W3 : World) (b6 b7 b10 : Bool) : World := if b10 = true then W3 else if b7 = true then W2 else if b6 = true then W1 else W
structure RA (W W1 W2 W3 : World) (p f : Nat) (vf val v' : Value) (b0 b1 b2 b3 b4 b5 b6 b7 b8 b9 b10 : Bool) (v0 v1 v2 v3 v4 v5 v6 v7 v8 v9 : Value) (w' : World) : Prop where
 f0 : b0 = true → v0 = .pointer (some ⟨p,0,none⟩)
 f1 : b1 = true → v1 = .pointer (some ⟨p,0,none⟩)
 f2 : b2 = true → v2 = .pointer (some ⟨p,0,none⟩)
 f3 : b3 = true → v3 = .pointer (some ⟨p,f,none⟩)
 f4 : b4 = true → v4 = vf
 f5 : b5 = true → v5 = .agg #[val]
 f6 : b6 = true → v6 = .slice (some ⟨W.heap.size,0,none⟩) 1 1
 f7 : b7 = true → v7 = v'
 f8 : b8 = true → v8 = .pointer (some ⟨p,0,none⟩)
 f9 : b9 = true → v9 = .pointer (some ⟨p,f,none⟩)
 m7 : b7 = true → b6 = true
 m9 : b9 = true → b8 = true
 m10 : b10 = true → b0 = true ∧ b1 = true ∧ b2 = true ∧ b3 = true ∧ b4 = true ∧ b5 = true ∧ b6 = true ∧ b7 = true ∧ b8 = true ∧ b9 = true
 st : w' = wst W W1 W2 W3 b6 b7 b10
theorem RA.cells {W W1 W2 W3 : World} {p f pa : Nat} {vf val v' : Value} {b0 b1 b2 b3 b4 b5 b6 b7 b8 b9 b10 : Bool} {v0 v1 v2 v3 v4 v5 v6 v7 v8 v9 : Value} {w' : World} (h : RA W W1 W2 W3 p f vf val v' b0 b1 b2 b3 b4 b5 b6 b7 b8 b9 b10 v0 v1 v2 v3 v4 v5 v6 v7 v8 v9 w') (h10 : b10 = false)
  (c0 : W.cell? ⟨p,f,none⟩ = some vf ∧ W.cell? ⟨pa,0,none⟩ = some val) (c1 : W1.cell? ⟨p,f,none⟩ = some vf ∧ W1.cell? ⟨pa,0,none⟩ = some val) (c2 : W2.cell? ⟨p,f,none⟩ = some vf ∧ W2.cell? ⟨pa,0,none⟩ = some val) :
  w'.cell? ⟨p,f,none⟩ = some vf ∧ w'.cell? ⟨pa,0,none⟩ = some val := by
 rw [h.st,h10]
 unfold wst
 simp only [Bool.false_eq_true,if_false]
 by_cases h7 : b7 = true
 ·rw [if_pos h7]; exact c2
 ·rw [if_neg h7]
  by_cases h6 : b6 = true
  ·rw [if_pos h6]; exact c1
  ·rw [if_neg h6]; exact c0
theorem own_below {w w' : World} {base n B : Nat} {t : TypeId} {v : Value} {xs : List Value} (h : w.ownsRow base t 1 v n xs) (hb : Below B w w') (hB : w.heap.size ≤ B := by exact Nat.le_refl _) : w'.ownsRow base t 1 v n xs := by
 obtain ⟨h1,h2 | ⟨g,cap,cur,e,hg,hh,r⟩⟩ := h
 ·exact ⟨h1,Or.inl h2⟩
 ·have hlt : g < w.heap.size := by
   by_cases hlt : g < w.heap.size
   ·exact hlt
   ·rw [Array.getElem?_eq_none (by omega)] at hh; cases hh
  exact ⟨h1,Or.inr ⟨g,cap,cur,e,hg,by rw [hb.block g (by omega)]; exact hh,r⟩⟩
theorem own_form {w : World} {base n : Nat} {t : TypeId} {v : Value} {xs : List Value} (h : w.ownsRow base t 1 v n xs) (hn : 0 < n) : ∃ g cap,v = .slice (some ⟨g,0,none⟩) n cap := by
 obtain ⟨h1,h2 | ⟨g,cap,cur,e,_⟩⟩ := h
 ·omega
 ·exact ⟨g,cap,e⟩
theorem own_type {w : World} {base n k : Nat} {v : Value} {xs : List Value} {cur : Array Value} {t : TypeId} (h : w.ownsRow base 24 1 v n xs) (hk : v.ownBlock = some k) (hb : w.heap[k]? = some (.cells cur t (0,0))) (ht : t ≠ 24 := by decide) : False := by
 obtain ⟨h1,h2 | ⟨g,cap,cur',e,hg,hh,r⟩⟩ := h
 ·rw [h2.1] at hk; cases hk
 ·rw [e] at hk
  simp only [Value.ownBlock] at hk
  injection hk with hk
  subst hk
  rw [hh] at hb
  injection hb with hb
  injection hb with _ hb
  exact ht hb.symm
structure Fr (w w' : World) (p : Nat) (r1 r2 : Option Nat) : Prop where
 os : w'.os = w.os
 tape : w'.tape = w.tape
 output : w'.output = w.output
 size : w.heap.size ≤ w'.heap.size
 block : ∀ k,k < w.heap.size → k ≠ p → some k ≠ r1 → some k ≠ r2 → w'.heap[k]? = w.heap[k]?
theorem Fr.of_below {w w' : World} {p : Nat} {r1 r2 : Option Nat} (h : Below w.heap.size w w') : Fr w w' p r1 r2 := ⟨h.os,h.tape,h.output,h.size,fun k hk _ _ _ => h.block k hk⟩
theorem Fr.grown {w W W2 : World} {p : Nat} {r1 r2 : Option Nat} {o : Obj} (h : Fr w W p r1 r2) (hg : (W.alloc o).grownBy W2 r1) (j : Nat) (u : Value) : Fr w (W2.setCell ⟨p,j,none⟩ u) p r1 r2 := by
 refine ⟨hg.os.trans h.os,hg.tape.trans h.tape,hg.output.trans h.output,?_,fun k hk h1 h2 h3 => ?_⟩
 ·have := hg.size; have := h.size; simp [World.setCell] at *; omega
 ·have hkW := Nat.lt_of_lt_of_le hk h.size
  rw [heap_setCell_other W2 _ k u h1,hg.block k (by simp; omega) h2,(gr_alloc W o).block k hkW]
  exact h.block k hk h1 h2 h3
theorem Fr.drew {w w' : World} {p : Nat} {r1 r2 : Option Nat} (h : Fr w w' p r1 r2) : Fr w w'.drew p r1 r2 := ⟨h.os,h.tape,h.output,h.size,h.block⟩
theorem Fr.grown2 {w W W2 : World} {p : Nat} {r1 r2 : Option Nat} {o : Obj} (h : Fr w W p r1 r2) (hg : (W.alloc o).grownBy W2 r2) (j : Nat) (u : Value) : Fr w (W2.setCell ⟨p,j,none⟩ u) p r1 r2 := by
 have := Fr.grown (r1 := r2) (r2 := r1) ⟨h.os,h.tape,h.output,h.size,fun k hk h1 h2 h3 => h.block k hk h1 h3 h2⟩ hg j u
 exact ⟨this.os,this.tape,this.output,this.size,fun k hk h1 h2 h3 => this.block k hk h1 h3 h2⟩
theorem own_set {w : World} {base n p : Nat} {t : TypeId} {v : Value} {xs : List Value} (h : w.ownsRow base t 1 v n xs) (hp : some p ≠ v.ownBlock) (j : Nat) (u : Value) : (w.setCell ⟨p,j,none⟩ u).ownsRow base t 1 v n xs := by
 obtain ⟨h1,h2 | ⟨g,cap,cur,e,hg,hh,r⟩⟩ := h
 ·exact ⟨h1,Or.inl h2⟩
 ·refine ⟨h1,Or.inr ⟨g,cap,cur,e,hg,?_,r⟩⟩
  rw [heap_setCell_other w _ g u (fun e2 => hp (by rw [e]; simp [Value.ownBlock,e2]))]
  exact hh
theorem own_apart {v v' : Value} (h : v.ownBlock = none ∨ v.ownBlock ≠ v'.ownBlock) : v'.ownBlock = none ∨ v'.ownBlock ≠ v.ownBlock := by
 rcases h with h | h
 ·cases hv : v'.ownBlock with
  | none => exact Or.inl rfl
  | some k => right; rw [h]; simp
 ·exact Or.inr (Ne.symm h)
def NewRow (w : World) (v v' : Value) : Prop := v'.ownBlock = v.ownBlock ∨ ∃ g,v'.ownBlock = some g ∧ w.heap.size ≤ g
end Go.Proofs.YtecmcjlgknfnlaaDoor
namespace Go.Proofs.YtecmcjlgknfnlaaDoor
open Go.RowKit
structure Bk (w : World) (p base n : Nat) (vg vw : Value) (gs ws : List Value) : Prop where
 bk : w.heap[p]? = some (.cells #[vg,vw,.bool false] 34 (0,0))
 rg : w.ownsRow base 24 1 vg n gs
 rw : w.ownsRow base 24 1 vw n ws
 ap : vg.ownBlock = none ∨ vg.ownBlock ≠ vw.ownBlock
structure Bk3 (w : World) (p base n : Nat) (vg vw : Value) (gs ws : List Value) : Prop where
 bk : w.heap[p]? = some (.cells #[vg,vw,.bool false] 34 (0,0))
 rg : w.ownsRow base 24 1 vg (n + 1) gs
 rw : w.ownsRow base 24 1 vw n ws
 ap : vg.ownBlock = none ∨ vg.ownBlock ≠ vw.ownBlock
def AddsTo (p base n : Nat) (vg vw : Value) (gs ws : List Value) (g v : Value) (w : World) (en : Ending) (w' : World) : Prop :=
 en = .returned (.tuple #[]) ∧ ∃ vg' vw',Bk w' p base (n + 1) vg' vw' (gs ++ [g]) (ws ++ [v]) ∧ Fr w w' p vg.ownBlock vw.ownBlock ∧ NewRow w vg vg' ∧ NewRow w vw vw'
set_option maxRecDepth 20000 in
set_option maxHeartbeats 4000000 in
theorem adds_any (p base n : Nat) (vg vw : Value) (gs ws : List Value) (a b : Option Addr) (na nb ca cb : Nat) (w : World) (hB : Bk w p base n vg vw gs ws) (hb : base ≤ w.heap.size) (hn : n ≤ 1000) :
  Calls Tryd.prog 43 #[.pointer (some ⟨p,0,none⟩),.agg #[.slice a na ca],.agg #[.slice b nb cb]] w
   (AddsTo p base n vg vw gs ws (.slice a na ca) (.slice b nb cb) w) := by
 have hplt : p < w.heap.size := by
  by_cases hlt : p < w.heap.size
  ·exact hlt
  ·have := hB.bk; rw [Array.getElem?_eq_none (by omega)] at this; cases this
 go_enter Tryd.func43,Tryd.ntmps43
 go_wp2_with fail
 have hxa := (Box.made w (.slice a na ca)).alloc (.cells #[.slice b nb cb] 24)
 have hxb := Box.made (w.alloc (.cells #[.slice a na ca] 24)) (.slice b nb cb)
 simp only [World.size_alloc] at hxa hxb
 have HB := gr_trans (gr_alloc w (.cells #[.slice a na ca] 24)) (gr_alloc _ (.cells #[.slice b nb cb] 24))
 generalize (w.alloc (.cells #[.slice a na ca] 24)).alloc (.cells #[.slice b nb cb] 24) = w1 at *
 refine wp_region_any (by kernel_rfl) ?_
 change wpAny _ _ _ _ _ _ _ (World.drew _)
 have HBd := HB.drew
 have hxa' : Box w1.drew w.heap.size (.slice a na ca) := hxa
 have hxb' : Box w1.drew (w.heap.size + 1) (.slice b nb cb) := hxb
 clear hxa hxb HB
 generalize w1.drew = W at *
 have hBW : Bk W p base n vg vw gs ws := ⟨(HBd.block p hplt).trans hB.bk,own_below hB.rg HBd,own_below hB.rw HBd,hB.ap⟩
 have hgl : ∀ k,vg.ownBlock = some k → k < w.heap.size := fun k hk => (hB.rg.lt k hk).2
 have hwl : ∀ k,vw.ownBlock = some k → k < w.heap.size := fun k hk => (hB.rw.lt k hk).2
 have hbkW := hBW.bk
 have hgW := hBW.rg
 have hwW := hBW.rw
 obtain ⟨v',W2,hrun,hr2,hg2,ho2⟩ := append_nat W base n vg gs a na ca hgW (Nat.le_trans hb HBd.size) hn
 obtain ⟨g',cap',rfl⟩ := own_form hr2 (Nat.succ_pos n)
 have HF0 := Fr.grown (p := p) (Fr.of_below (p := p) (r1 := vg.ownBlock) (r2 := vw.ownBlock) HBd) hg2 0 (.slice (some ⟨g',0,none⟩) (n + 1) cap')
 obtain ⟨W1,hW1⟩ : ∃ W1,W.alloc (.cells #[.slice a na ca] 24) = W1 := ⟨_,rfl⟩
 obtain ⟨W3,hW3⟩ : ∃ W3,W2.setCell ⟨p,0,none⟩ (.slice (some ⟨g',0,none⟩) (n + 1) cap') = W3 := ⟨_,rfl⟩
 rw [hW1] at hrun hg2
 have hpg : some p ≠ vg.ownBlock := fun h => own_type hgW h.symm hbkW
 have hag : some w.heap.size ≠ vg.ownBlock := fun h => by have := hgl _ h.symm; omega
 have hbg : some (w.heap.size + 1) ≠ vg.ownBlock := fun h => by have := hgl _ h.symm; omega
 have hs1 : W1.heap.size = W.heap.size + 1 := by rw [← hW1]; simp
 have hpW : p < W.heap.size := Nat.lt_of_lt_of_le hplt HBd.size
 have haW : w.heap.size < W.heap.size := hxa'.lt
 have hbW : w.heap.size + 1 < W.heap.size := hxb'.lt
 have hbk1 : W1.heap[p]? = some (.cells #[vg,vw,.bool false] 34 (0,0)) := by rw [← hW1,(gr_alloc W _).block p hpW]; exact hbkW
 have hxa1 : Box W1 w.heap.size (.slice a na ca) := by rw [← hW1]; exact hxa'.alloc _
 have hxb1 : Box W1 (w.heap.size + 1) (.slice b nb cb) := by rw [← hW1]; exact hxb'.alloc _
 have hw1 : W1.ownsRow base 24 1 vw n ws := by rw [← hW1]; exact hwW.alloc _
 have hbk2 : W2.heap[p]? = some (.cells #[vg,vw,.bool false] 34 (0,0)) := (hg2.block p (by omega) hpg).trans hbk1
 have hxa2 : Box W2 w.heap.size (.slice a na ca) := (hg2.block w.heap.size (by omega) hag).trans hxa1
 have hxb2 : Box W2 (w.heap.size + 1) (.slice b nb cb) := (hg2.block (w.heap.size + 1) (by omega) hbg).trans hxb1
 have hw2 : W2.ownsRow base 24 1 vw n ws := hw1.kept hg2 (own_apart hB.ap)
 have c0 : W.cell? ⟨p,0,none⟩ = some vg ∧ W.cell? ⟨w.heap.size,0,none⟩ = some (.slice a na ca) := ⟨by rw [cell_of_row W p 0 _ _ _ hbkW]; rfl,hxa'.cell⟩
 have c1 : W1.cell? ⟨p,0,none⟩ = some vg ∧ W1.cell? ⟨w.heap.size,0,none⟩ = some (.slice a na ca) := ⟨by rw [cell_of_row W1 p 0 _ _ _ hbk1]; rfl,hxa1.cell⟩
 have c2 : W2.cell? ⟨p,0,none⟩ = some vg ∧ W2.cell? ⟨w.heap.size,0,none⟩ = some (.slice a na ca) := ⟨by rw [cell_of_row W2 p 0 _ _ _ hbk2]; rfl,hxa2.cell⟩
 have c2c := c2.1
 have f2 := frozen_of_row W2 p 0 _ _ hbk2
 rw [hW3] at HF0
 have HF := hide HF0
 clear HF0
 have HB3 : Hid (Bk3 W3 p base n (.slice (some ⟨g',0,none⟩) (n + 1) cap') vw (gs ++ [.slice a na ca]) ws) := hide (by
  have hpg' : some p ≠ (Value.slice (some ⟨g',0,none⟩) (n + 1) cap').ownBlock := fun h => own_type hr2 h.symm hbk2
  have hpw : some p ≠ vw.ownBlock := fun h => own_type hw2 h.symm hbk2
  rw [← hW3]
  refine ⟨?_,own_set hr2 hpg' _ _,own_set hw2 hpw _ _,?_⟩
  ·rw [heap_setCell_same W2 p 0 _ _ _ hbk2]; rfl
  ·right
   rcases ho2 with h | h
   ·rw [h]
    rcases hB.ap with h2 | h2
    ·rw [h2]; intro h3; rw [h2] at h; cases h
    ·exact h2
   ·rw [h]; intro h3; have := hwl _ h3.symm; omega)
 have HX3 : Hid (Box W3 (w.heap.size + 1) (.slice b nb cb)) := hide (by rw [← hW3]; exact hxb2.other (by simp; omega) _)
 refine wpAny_inv (fun l act w' => ∃ (b0 b1 b2 b3 b4 b5 b6 b7 b8 b9 b10 : Bool) (v0 v1 v2 v3 v4 v5 v6 v7 v8 v9 : Value),l = #[b0,b1,b2,b3,b4,b5,b6,b7,b8,b9,b10] ∧ act = { tmps := #[Value.pointer (some ⟨p,0,none⟩),Value.agg #[Value.slice a na ca],Value.agg #[Value.slice b nb cb],undef,Value.pointer (some ⟨w.heap.size,0,none⟩),Value.pointer (some ⟨w.heap.size + 1,0,none⟩),v0,v1,v2,v3,v4,v5,v6,v7,v8,v9,undef,undef,undef,undef,undef,undef,undef,undef,undef,undef],defers := [] } ∧ RA W W1 W2 W3 p 0 vg (.slice a na ca) (.slice (some ⟨g',0,none⟩) (n + 1) cap') b0 b1 b2 b3 b4 b5 b6 b7 b8 b9 b10 v0 v1 v2 v3 v4 v5 v6 v7 v8 v9 w') ?_ ?_ _ _ _ _ ?_ ?_
 ·rintro l act w' i ⟨b0,b1,b2,b3,b4,b5,b6,b7,b8,b9,b10,v0,v1,v2,v3,v4,v5,v6,v7,v8,v9,rfl,rfl,hR⟩ hi hl
  have hi11 : i < 11 := by
   by_cases h : i < 11
   ·exact h
   ·rw [Array.getElem?_eq_none (by simp; omega)] at hl; cases hl
  have hcase : i = 0 ∨ i = 1 ∨ i = 2 ∨ i = 3 ∨ i = 4 ∨ i = 5 ∨ i = 6 ∨ i = 7 ∨ i = 8 ∨ i = 9 ∨ i = 10 := by omega
  rcases hcase with rfl | rfl | rfl | rfl | rfl | rfl | rfl | rfl | rfl | rfl | rfl
  ·have hfl : b0 = false := by simpa using hl
   have e10 : b10 = false := by
    cases h10 : b10 with
    | false => rfl
    | true => rw [h10] at hR; have := hR.m10 rfl; simp [hfl] at this
   refine wpOp_step rfl (fun K hK => ?_)
   go_simp
   exact hK _ _ ⟨true,b1,b2,b3,b4,b5,b6,b7,b8,b9,b10,_,v1,v2,v3,v4,v5,v6,v7,v8,v9,rfl,rfl,⟨fun _ => rfl,hR.f1,hR.f2,hR.f3,hR.f4,hR.f5,hR.f6,hR.f7,hR.f8,hR.f9,hR.m7,hR.m9,fun h => absurd h (by rw [e10]; decide),hR.st⟩⟩
  ·have hfl : b1 = false := by simpa using hl
   have e10 : b10 = false := by
    cases h10 : b10 with
    | false => rfl
    | true => rw [h10] at hR; have := hR.m10 rfl; simp [hfl] at this
   refine wpOp_step rfl (fun K hK => ?_)
   go_simp
   exact hK _ _ ⟨b0,true,b2,b3,b4,b5,b6,b7,b8,b9,b10,v0,_,v2,v3,v4,v5,v6,v7,v8,v9,rfl,rfl,⟨hR.f0,fun _ => rfl,hR.f2,hR.f3,hR.f4,hR.f5,hR.f6,hR.f7,hR.f8,hR.f9,hR.m7,hR.m9,fun h => absurd h (by rw [e10]; decide),hR.st⟩⟩
  ·have hfl : b2 = false := by simpa using hl
   have e10 : b10 = false := by
    cases h10 : b10 with
    | false => rfl
    | true => rw [h10] at hR; have := hR.m10 rfl; simp [hfl] at this
   obtain ⟨o,ho,hd⟩ := (mem_ready.1 hi).2
   cases ho
   have e1 : b1 = true := hd ⟨1,.data⟩ (by simp) rfl
   clear hd
   obtain rfl := hR.f1 e1
   refine wpOp_step rfl (fun K hK => ?_)
   go_simp
   exact hK _ _ ⟨b0,b1,true,b3,b4,b5,b6,b7,b8,b9,b10,v0,_,_,v3,v4,v5,v6,v7,v8,v9,rfl,rfl,⟨hR.f0,hR.f1,fun _ => rfl,hR.f3,hR.f4,hR.f5,hR.f6,hR.f7,hR.f8,hR.f9,hR.m7,hR.m9,fun h => absurd h (by rw [e10]; decide),hR.st⟩⟩
  ·have hfl : b3 = false := by simpa using hl
   have e10 : b10 = false := by
    cases h10 : b10 with
    | false => rfl
    | true => rw [h10] at hR; have := hR.m10 rfl; simp [hfl] at this
   obtain ⟨o,ho,hd⟩ := (mem_ready.1 hi).2
   cases ho
   have e2 : b2 = true := hd ⟨2,.data⟩ (by simp) rfl
   clear hd
   obtain rfl := hR.f2 e2
   refine wpOp_step rfl (fun K hK => ?_)
   go_simp
   exact hK _ _ ⟨b0,b1,b2,true,b4,b5,b6,b7,b8,b9,b10,v0,v1,_,_,v4,v5,v6,v7,v8,v9,rfl,rfl,⟨hR.f0,hR.f1,hR.f2,fun _ => rfl,hR.f4,hR.f5,hR.f6,hR.f7,hR.f8,hR.f9,hR.m7,hR.m9,fun h => absurd h (by rw [e10]; decide),hR.st⟩⟩
  ·have hfl : b4 = false := by simpa using hl
   have e10 : b10 = false := by
    cases h10 : b10 with
    | false => rfl
    | true => rw [h10] at hR; have := hR.m10 rfl; simp [hfl] at this
   obtain ⟨o,ho,hd⟩ := (mem_ready.1 hi).2
   cases ho
   have e3 : b3 = true := hd ⟨3,.data⟩ (by simp) rfl
   clear hd
   obtain rfl := hR.f3 e3
   have hc := (hR.cells (pa := w.heap.size) e10 c0 c1 c2).1
   refine wpOp_step rfl (fun K hK => ?_)
   go_simp
   exact hK _ _ ⟨b0,b1,b2,b3,true,b5,b6,b7,b8,b9,b10,v0,v1,v2,_,_,v5,v6,v7,v8,v9,rfl,rfl,⟨hR.f0,hR.f1,hR.f2,hR.f3,fun _ => rfl,hR.f5,hR.f6,hR.f7,hR.f8,hR.f9,hR.m7,hR.m9,fun h => absurd h (by rw [e10]; decide),hR.st⟩⟩
  ·have hfl : b5 = false := by simpa using hl
   have e10 : b10 = false := by
    cases h10 : b10 with
    | false => rfl
    | true => rw [h10] at hR; have := hR.m10 rfl; simp [hfl] at this
   have hc := (hR.cells (pa := w.heap.size) e10 c0 c1 c2).2
   refine wpOp_step rfl (fun K hK => ?_)
   go_simp
   exact hK _ _ ⟨b0,b1,b2,b3,b4,true,b6,b7,b8,b9,b10,v0,v1,v2,v3,v4,_,v6,v7,v8,v9,rfl,rfl,⟨hR.f0,hR.f1,hR.f2,hR.f3,hR.f4,fun _ => rfl,hR.f6,hR.f7,hR.f8,hR.f9,hR.m7,hR.m9,fun h => absurd h (by rw [e10]; decide),hR.st⟩⟩
  ·have hfl : b6 = false := by simpa using hl
   have e10 : b10 = false := by
    cases h10 : b10 with
    | false => rfl
    | true => rw [h10] at hR; have := hR.m10 rfl; simp [hfl] at this
   obtain ⟨o,ho,hd⟩ := (mem_ready.1 hi).2
   cases ho
   have e5 : b5 = true := hd ⟨5,.data⟩ (by simp) rfl
   clear hd
   obtain rfl := hR.f5 e5
   have e7 : b7 = false := by
    cases h7 : b7 with
    | false => rfl
    | true => rw [h7] at hR; have := hR.m7 rfl; simp [hfl] at this
   obtain rfl : w' = W := by rw [hR.st,e10,e7,hfl]; rfl
   refine wpOp_step rfl (fun K hK => ?_)
   go_simp
   exact hK _ _ ⟨b0,b1,b2,b3,b4,b5,true,b7,b8,b9,b10,v0,v1,v2,v3,v4,_,_,v7,v8,v9,rfl,rfl,⟨hR.f0,hR.f1,hR.f2,hR.f3,hR.f4,hR.f5,fun _ => rfl,hR.f7,hR.f8,hR.f9,fun _ => rfl,hR.m9,fun h => absurd h (by rw [e10]; decide),by rw [e10,e7]; rfl⟩⟩
  ·have hfl : b7 = false := by simpa using hl
   have e10 : b10 = false := by
    cases h10 : b10 with
    | false => rfl
    | true => rw [h10] at hR; have := hR.m10 rfl; simp [hfl] at this
   obtain ⟨o,ho,hd⟩ := (mem_ready.1 hi).2
   cases ho
   have e4 : b4 = true := hd ⟨4,.data⟩ (by simp) rfl
   have e6 : b6 = true := hd ⟨6,.data⟩ (by simp) rfl
   clear hd
   obtain rfl := hR.f4 e4
   obtain rfl := hR.f6 e6
   obtain rfl : w' = W1 := by rw [hR.st,e10,hfl,e6]; rfl
   exact step_append rfl rfl (.tmp 10) (.tmp 12) 32 rfl hrun ⟨b0,b1,b2,b3,b4,b5,b6,true,b8,b9,b10,v0,v1,v2,v3,_,v5,_,_,v8,v9,rfl,rfl,⟨hR.f0,hR.f1,hR.f2,hR.f3,hR.f4,hR.f5,hR.f6,fun _ => rfl,hR.f8,hR.f9,fun _ => e6,hR.m9,fun h => absurd h (by rw [e10]; decide),by rw [e10]; rfl⟩⟩
  ·have hfl : b8 = false := by simpa using hl
   have e10 : b10 = false := by
    cases h10 : b10 with
    | false => rfl
    | true => rw [h10] at hR; have := hR.m10 rfl; simp [hfl] at this
   obtain ⟨o,ho,hd⟩ := (mem_ready.1 hi).2
   cases ho
   have e0 : b0 = true := hd ⟨0,.data⟩ (by simp) rfl
   clear hd
   obtain rfl := hR.f0 e0
   refine wpOp_step rfl (fun K hK => ?_)
   go_simp
   exact hK _ _ ⟨b0,b1,b2,b3,b4,b5,b6,b7,true,b9,b10,_,v1,v2,v3,v4,v5,v6,v7,_,v9,rfl,rfl,⟨hR.f0,hR.f1,hR.f2,hR.f3,hR.f4,hR.f5,hR.f6,hR.f7,fun _ => rfl,hR.f9,hR.m7,fun _ => rfl,fun h => absurd h (by rw [e10]; decide),hR.st⟩⟩
  ·have hfl : b9 = false := by simpa using hl
   have e10 : b10 = false := by
    cases h10 : b10 with
    | false => rfl
    | true => rw [h10] at hR; have := hR.m10 rfl; simp [hfl] at this
   obtain ⟨o,ho,hd⟩ := (mem_ready.1 hi).2
   cases ho
   have e8 : b8 = true := hd ⟨8,.data⟩ (by simp) rfl
   clear hd
   obtain rfl := hR.f8 e8
   refine wpOp_step rfl (fun K hK => ?_)
   go_simp
   exact hK _ _ ⟨b0,b1,b2,b3,b4,b5,b6,b7,b8,true,b10,v0,v1,v2,v3,v4,v5,v6,v7,_,_,rfl,rfl,⟨hR.f0,hR.f1,hR.f2,hR.f3,hR.f4,hR.f5,hR.f6,hR.f7,hR.f8,fun _ => rfl,hR.m7,fun _ => e8,fun h => absurd h (by rw [e10]; decide),hR.st⟩⟩
  ·have hfl : b10 = false := by simpa using hl
   have e10 : b10 = false := hfl
   obtain ⟨o,ho,hd⟩ := (mem_ready.1 hi).2
   cases ho
   have e7 : b7 = true := hd ⟨7,.data⟩ (by simp) rfl
   have e9 : b9 = true := hd ⟨9,.data⟩ (by simp) rfl
   have E0 : b0 = true := hd ⟨0,.phase⟩ (by simp) rfl
   have E1 : b1 = true := hd ⟨1,.phase⟩ (by simp) rfl
   have E2 : b2 = true := hd ⟨2,.phase⟩ (by simp) rfl
   have E3 : b3 = true := hd ⟨3,.phase⟩ (by simp) rfl
   have E4 : b4 = true := hd ⟨4,.phase⟩ (by simp) rfl
   have E5 : b5 = true := hd ⟨5,.phase⟩ (by simp) rfl
   have E6 : b6 = true := hd ⟨6,.phase⟩ (by simp) rfl
   have E8 : b8 = true := hR.m9 e9
   clear hd
   obtain rfl := hR.f7 e7
   obtain rfl := hR.f9 e9
   obtain rfl : w' = W2 := by rw [hR.st,hfl,e7]; rfl
   refine wpOp_step rfl (fun K hK => ?_)
   go_simp
   refine hK _ _ ⟨b0,b1,b2,b3,b4,b5,b6,b7,b8,b9,true,v0,v1,v2,v3,v4,v5,v6,_,v8,_,rfl,rfl,⟨hR.f0,hR.f1,hR.f2,hR.f3,hR.f4,hR.f5,hR.f6,hR.f7,hR.f8,hR.f9,hR.m7,hR.m9,fun _ => ⟨E0,E1,E2,E3,E4,E5,E6,e7,E8,e9⟩,?_⟩⟩
   first | rfl | exact hW3
 ·rintro l act w' ⟨b0,b1,b2,b3,b4,b5,b6,b7,b8,b9,b10,v0,v1,v2,v3,v4,v5,v6,v7,v8,v9,rfl,rfl,hR⟩ hr
  have e0 : b0 = true := ready_nil (i := 0) hr rfl (by intro e he hb; simp at he; (try (repeat' (rcases he with rfl | he))); all_goals (first | assumption | (exact absurd hb (by decide))))
  have e1 : b1 = true := ready_nil (i := 1) hr rfl (by intro e he hb; simp at he; (try (repeat' (rcases he with rfl | he))); all_goals (first | assumption | (exact absurd hb (by decide))))
  have e2 : b2 = true := ready_nil (i := 2) hr rfl (by intro e he hb; simp at he; (try (repeat' (rcases he with rfl | he))); all_goals (first | assumption | (exact absurd hb (by decide))))
  have e3 : b3 = true := ready_nil (i := 3) hr rfl (by intro e he hb; simp at he; (try (repeat' (rcases he with rfl | he))); all_goals (first | assumption | (exact absurd hb (by decide))))
  have e4 : b4 = true := ready_nil (i := 4) hr rfl (by intro e he hb; simp at he; (try (repeat' (rcases he with rfl | he))); all_goals (first | assumption | (exact absurd hb (by decide))))
  have e5 : b5 = true := ready_nil (i := 5) hr rfl (by intro e he hb; simp at he; (try (repeat' (rcases he with rfl | he))); all_goals (first | assumption | (exact absurd hb (by decide))))
  have e6 : b6 = true := ready_nil (i := 6) hr rfl (by intro e he hb; simp at he; (try (repeat' (rcases he with rfl | he))); all_goals (first | assumption | (exact absurd hb (by decide))))
  have e7 : b7 = true := ready_nil (i := 7) hr rfl (by intro e he hb; simp at he; (try (repeat' (rcases he with rfl | he))); all_goals (first | assumption | (exact absurd hb (by decide))))
  have e8 : b8 = true := ready_nil (i := 8) hr rfl (by intro e he hb; simp at he; (try (repeat' (rcases he with rfl | he))); all_goals (first | assumption | (exact absurd hb (by decide))))
  have e9 : b9 = true := ready_nil (i := 9) hr rfl (by intro e he hb; simp at he; (try (repeat' (rcases he with rfl | he))); all_goals (first | assumption | (exact absurd hb (by decide))))
  have e10 : b10 = true := ready_nil (i := 10) hr rfl (by intro e he hb; simp at he; (try (repeat' (rcases he with rfl | he))); all_goals (first | assumption | (exact absurd hb (by decide))))
  subst e0 e1 e2 e3 e4 e5 e6 e7 e8 e9 e10
  have h0 := (hR.f0 rfl).symm
  subst h0
  have h1 := (hR.f1 rfl).symm
  subst h1
  have h2 := (hR.f2 rfl).symm
  subst h2
  have h3 := (hR.f3 rfl).symm
  subst h3
  have h4 := (hR.f4 rfl).symm
  subst h4
  have h5 := (hR.f5 rfl).symm
  subst h5
  have h6 := (hR.f6 rfl).symm
  subst h6
  have h7 := (hR.f7 rfl).symm
  subst h7
  have h8 := (hR.f8 rfl).symm
  subst h8
  have h9 := (hR.f9 rfl).symm
  subst h9
  have hst : W3 = w' := hR.st.symm
  subst hst
  clear hr hR
  have HW3S := hide (unhide HF).size
  have HO1 : Hid (NewRow w vg (.slice (some ⟨g',0,none⟩) (n + 1) cap')) := hide (by
   rcases ho2 with h | h
   ·exact Or.inl h
   ·exact Or.inr ⟨_,h,by omega⟩)
  clear c0 c1 c2 c2c f2 hbkW hgW hwW hrun hr2 hg2 ho2 hpg hag hbg hs1 hpW haW hbW hbk1 hxa1 hxb1 hw1 hbk2 hxa2 hxb2 hw2 hxa' hxb' hW1 hW3 hBW HBd
  go_wp2_with fail
  refine wp_region_any (by kernel_rfl) ?_
  change wpAny _ _ _ _ _ _ _ (World.drew _)
  obtain ⟨X0,hX0⟩ : ∃ X0,W3.drew = X0 := ⟨_,rfl⟩
  rw [hX0]
  have hbk0 : X0.heap[p]? = some (.cells #[.slice (some ⟨g',0,none⟩) (n + 1) cap',vw,.bool false] 34 (0,0)) := by rw [← hX0]; exact (unhide HB3).bk
  have hg0 : X0.ownsRow base 24 1 (.slice (some ⟨g',0,none⟩) (n + 1) cap') (n + 1) (gs ++ [.slice a na ca]) := by rw [← hX0]; exact (unhide HB3).rg
  have hw0 : X0.ownsRow base 24 1 vw n ws := by rw [← hX0]; exact (unhide HB3).rw
  have hxb0 : Box X0 (w.heap.size + 1) (.slice b nb cb) := by rw [← hX0]; exact unhide HX3
  have hFX : Fr w X0 p vg.ownBlock vw.ownBlock := by rw [← hX0]; exact (unhide HF).drew
  have hap0 := (unhide HB3).ap
  have hgl0 : ∀ k,(Value.slice (some ⟨g',0,none⟩) (n + 1) cap').ownBlock = some k → k < X0.heap.size := fun k hk => (hg0.lt k hk).2
  clear hX0 HF HB3 HX3 HW3S
  obtain ⟨v',X2,hrun,hr2,hg2,ho2⟩ := append_nat X0 base n vw ws b nb cb hw0 (Nat.le_trans hb hFX.size) hn
  obtain ⟨k',cap2,rfl⟩ := own_form hr2 (Nat.succ_pos n)
  have HO2 : Hid (NewRow w vw (.slice (some ⟨k',0,none⟩) (n + 1) cap2)) := hide (by
   rcases ho2 with h | h
   ·exact Or.inl h
   ·exact Or.inr ⟨_,h,by have := hFX.size; omega⟩)
  have HF0 := Fr.grown2 hFX hg2 1 (.slice (some ⟨k',0,none⟩) (n + 1) cap2)
  obtain ⟨X1,hX1⟩ : ∃ X1,X0.alloc (.cells #[.slice b nb cb] 24) = X1 := ⟨_,rfl⟩
  obtain ⟨X3,hX3⟩ : ∃ X3,X2.setCell ⟨p,1,none⟩ (.slice (some ⟨k',0,none⟩) (n + 1) cap2) = X3 := ⟨_,rfl⟩
  rw [hX3] at HF0
  rw [hX1] at hrun hg2
  have hpw : some p ≠ vw.ownBlock := fun h => own_type hw0 h.symm hbk0
  have hbw : some (w.heap.size + 1) ≠ vw.ownBlock := fun h => by have := hwl _ h.symm; omega
  have hs1 : X1.heap.size = X0.heap.size + 1 := by rw [← hX1]; simp
  have hpX : p < X0.heap.size := Nat.lt_of_lt_of_le hplt hFX.size
  have hbX : w.heap.size + 1 < X0.heap.size := hxb0.lt
  have hbk1 : X1.heap[p]? = some (.cells #[.slice (some ⟨g',0,none⟩) (n + 1) cap',vw,.bool false] 34 (0,0)) := by rw [← hX1,(gr_alloc X0 _).block p hpX]; exact hbk0
  have hxb1 : Box X1 (w.heap.size + 1) (.slice b nb cb) := by rw [← hX1]; exact hxb0.alloc _
  have hg1 : X1.ownsRow base 24 1 (.slice (some ⟨g',0,none⟩) (n + 1) cap') (n + 1) (gs ++ [.slice a na ca]) := by rw [← hX1]; exact hg0.alloc _
  have hbk2 : X2.heap[p]? = some (.cells #[.slice (some ⟨g',0,none⟩) (n + 1) cap',vw,.bool false] 34 (0,0)) := (hg2.block p (by omega) hpw).trans hbk1
  have hxb2 : Box X2 (w.heap.size + 1) (.slice b nb cb) := (hg2.block (w.heap.size + 1) (by omega) hbw).trans hxb1
  have hgg2 : X2.ownsRow base 24 1 (.slice (some ⟨g',0,none⟩) (n + 1) cap') (n + 1) (gs ++ [.slice a na ca]) := hg1.kept hg2 hap0
  have c0 : X0.cell? ⟨p,1,none⟩ = some vw ∧ X0.cell? ⟨w.heap.size + 1,0,none⟩ = some (.slice b nb cb) := ⟨by rw [cell_of_row X0 p 1 _ _ _ hbk0]; rfl,hxb0.cell⟩
  have c1 : X1.cell? ⟨p,1,none⟩ = some vw ∧ X1.cell? ⟨w.heap.size + 1,0,none⟩ = some (.slice b nb cb) := ⟨by rw [cell_of_row X1 p 1 _ _ _ hbk1]; rfl,hxb1.cell⟩
  have c2 : X2.cell? ⟨p,1,none⟩ = some vw ∧ X2.cell? ⟨w.heap.size + 1,0,none⟩ = some (.slice b nb cb) := ⟨by rw [cell_of_row X2 p 1 _ _ _ hbk2]; rfl,hxb2.cell⟩
  have c2c := c2.1
  have f2 := frozen_of_row X2 p 1 _ _ hbk2
  have HF4 := hide HF0
  have HB4 : Hid (Bk X3 p base (n + 1) (.slice (some ⟨g',0,none⟩) (n + 1) cap') (.slice (some ⟨k',0,none⟩) (n + 1) cap2) (gs ++ [.slice a na ca]) (ws ++ [.slice b nb cb])) := hide (by
   have hpk : some p ≠ (Value.slice (some ⟨k',0,none⟩) (n + 1) cap2).ownBlock := fun h => own_type hr2 h.symm hbk2
   have hpg2 : some p ≠ (Value.slice (some ⟨g',0,none⟩) (n + 1) cap').ownBlock := fun h => own_type hgg2 h.symm hbk2
   rw [← hX3]
   refine ⟨?_,own_set hgg2 hpg2 _ _,own_set hr2 hpk _ _,?_⟩
   ·rw [heap_setCell_same X2 p 1 _ _ _ hbk2]; rfl
   ·right
    rcases ho2 with h | h
    ·rw [h]
     rcases hap0 with h2 | h2
     ·cases h2
     ·exact h2
    ·rw [h]; intro h3; have := hgl0 _ h3; omega)
  clear HF0
  refine wpAny_inv (fun l act w' => ∃ (b0 b1 b2 b3 b4 b5 b6 b7 b8 b9 b10 : Bool) (v0 v1 v2 v3 v4 v5 v6 v7 v8 v9 : Value),l = #[b0,b1,b2,b3,b4,b5,b6,b7,b8,b9,b10] ∧ act = { tmps := #[Value.pointer (some ⟨p,0,none⟩),Value.agg #[Value.slice a na ca],Value.agg #[Value.slice b nb cb],undef,Value.pointer (some ⟨w.heap.size,0,none⟩),Value.pointer (some ⟨w.heap.size + 1,0,none⟩),Value.pointer (some ⟨p,0,none⟩),Value.pointer (some ⟨p,0,none⟩),Value.pointer (some ⟨p,0,none⟩),Value.pointer (some ⟨p,0,none⟩),vg,Value.agg #[Value.slice a na ca],Value.slice (some ⟨W.heap.size,0,none⟩) 1 1,Value.slice (some ⟨g',0,none⟩) (n + 1) cap',Value.pointer (some ⟨p,0,none⟩),Value.pointer (some ⟨p,0,none⟩),v0,v1,v2,v3,v4,v5,v6,v7,v8,v9],defers := [] } ∧ RA X0 X1 X2 X3 p 1 vw (.slice b nb cb) (.slice (some ⟨k',0,none⟩) (n + 1) cap2) b0 b1 b2 b3 b4 b5 b6 b7 b8 b9 b10 v0 v1 v2 v3 v4 v5 v6 v7 v8 v9 w') ?_ ?_ _ _ _ _ ?_ ?_
  ·rintro l act w' i ⟨b0,b1,b2,b3,b4,b5,b6,b7,b8,b9,b10,v0,v1,v2,v3,v4,v5,v6,v7,v8,v9,rfl,rfl,hR⟩ hi hl
   have hi11 : i < 11 := by
    by_cases h : i < 11
    ·exact h
    ·rw [Array.getElem?_eq_none (by simp; omega)] at hl; cases hl
   have hcase : i = 0 ∨ i = 1 ∨ i = 2 ∨ i = 3 ∨ i = 4 ∨ i = 5 ∨ i = 6 ∨ i = 7 ∨ i = 8 ∨ i = 9 ∨ i = 10 := by omega
   rcases hcase with rfl | rfl | rfl | rfl | rfl | rfl | rfl | rfl | rfl | rfl | rfl
   ·have hfl : b0 = false := by simpa using hl
    have e10 : b10 = false := by
     cases h10 : b10 with
     | false => rfl
     | true => rw [h10] at hR; have := hR.m10 rfl; simp [hfl] at this
    refine wpOp_step rfl (fun K hK => ?_)
    go_simp
    exact hK _ _ ⟨true,b1,b2,b3,b4,b5,b6,b7,b8,b9,b10,_,v1,v2,v3,v4,v5,v6,v7,v8,v9,rfl,rfl,⟨fun _ => rfl,hR.f1,hR.f2,hR.f3,hR.f4,hR.f5,hR.f6,hR.f7,hR.f8,hR.f9,hR.m7,hR.m9,fun h => absurd h (by rw [e10]; decide),hR.st⟩⟩
   ·have hfl : b1 = false := by simpa using hl
    have e10 : b10 = false := by
     cases h10 : b10 with
     | false => rfl
     | true => rw [h10] at hR; have := hR.m10 rfl; simp [hfl] at this
    refine wpOp_step rfl (fun K hK => ?_)
    go_simp
    exact hK _ _ ⟨b0,true,b2,b3,b4,b5,b6,b7,b8,b9,b10,v0,_,v2,v3,v4,v5,v6,v7,v8,v9,rfl,rfl,⟨hR.f0,fun _ => rfl,hR.f2,hR.f3,hR.f4,hR.f5,hR.f6,hR.f7,hR.f8,hR.f9,hR.m7,hR.m9,fun h => absurd h (by rw [e10]; decide),hR.st⟩⟩
   ·have hfl : b2 = false := by simpa using hl
    have e10 : b10 = false := by
     cases h10 : b10 with
     | false => rfl
     | true => rw [h10] at hR; have := hR.m10 rfl; simp [hfl] at this
    obtain ⟨o,ho,hd⟩ := (mem_ready.1 hi).2
    cases ho
    have e1 : b1 = true := hd ⟨1,.data⟩ (by simp) rfl
    clear hd
    obtain rfl := hR.f1 e1
    refine wpOp_step rfl (fun K hK => ?_)
    go_simp
    exact hK _ _ ⟨b0,b1,true,b3,b4,b5,b6,b7,b8,b9,b10,v0,_,_,v3,v4,v5,v6,v7,v8,v9,rfl,rfl,⟨hR.f0,hR.f1,fun _ => rfl,hR.f3,hR.f4,hR.f5,hR.f6,hR.f7,hR.f8,hR.f9,hR.m7,hR.m9,fun h => absurd h (by rw [e10]; decide),hR.st⟩⟩
   ·have hfl : b3 = false := by simpa using hl
    have e10 : b10 = false := by
     cases h10 : b10 with
     | false => rfl
     | true => rw [h10] at hR; have := hR.m10 rfl; simp [hfl] at this
    obtain ⟨o,ho,hd⟩ := (mem_ready.1 hi).2
    cases ho
    have e2 : b2 = true := hd ⟨2,.data⟩ (by simp) rfl
    clear hd
    obtain rfl := hR.f2 e2
    refine wpOp_step rfl (fun K hK => ?_)
    go_simp
    exact hK _ _ ⟨b0,b1,b2,true,b4,b5,b6,b7,b8,b9,b10,v0,v1,_,_,v4,v5,v6,v7,v8,v9,rfl,rfl,⟨hR.f0,hR.f1,hR.f2,fun _ => rfl,hR.f4,hR.f5,hR.f6,hR.f7,hR.f8,hR.f9,hR.m7,hR.m9,fun h => absurd h (by rw [e10]; decide),hR.st⟩⟩
   ·have hfl : b4 = false := by simpa using hl
    have e10 : b10 = false := by
     cases h10 : b10 with
     | false => rfl
     | true => rw [h10] at hR; have := hR.m10 rfl; simp [hfl] at this
    obtain ⟨o,ho,hd⟩ := (mem_ready.1 hi).2
    cases ho
    have e3 : b3 = true := hd ⟨3,.data⟩ (by simp) rfl
    clear hd
    obtain rfl := hR.f3 e3
    have hc := (hR.cells (pa := w.heap.size + 1) e10 c0 c1 c2).1
    refine wpOp_step rfl (fun K hK => ?_)
    go_simp
    exact hK _ _ ⟨b0,b1,b2,b3,true,b5,b6,b7,b8,b9,b10,v0,v1,v2,_,_,v5,v6,v7,v8,v9,rfl,rfl,⟨hR.f0,hR.f1,hR.f2,hR.f3,fun _ => rfl,hR.f5,hR.f6,hR.f7,hR.f8,hR.f9,hR.m7,hR.m9,fun h => absurd h (by rw [e10]; decide),hR.st⟩⟩
   ·have hfl : b5 = false := by simpa using hl
    have e10 : b10 = false := by
     cases h10 : b10 with
     | false => rfl
     | true => rw [h10] at hR; have := hR.m10 rfl; simp [hfl] at this
    have hc := (hR.cells (pa := w.heap.size + 1) e10 c0 c1 c2).2
    refine wpOp_step rfl (fun K hK => ?_)
    go_simp
    exact hK _ _ ⟨b0,b1,b2,b3,b4,true,b6,b7,b8,b9,b10,v0,v1,v2,v3,v4,_,v6,v7,v8,v9,rfl,rfl,⟨hR.f0,hR.f1,hR.f2,hR.f3,hR.f4,fun _ => rfl,hR.f6,hR.f7,hR.f8,hR.f9,hR.m7,hR.m9,fun h => absurd h (by rw [e10]; decide),hR.st⟩⟩
   ·have hfl : b6 = false := by simpa using hl
    have e10 : b10 = false := by
     cases h10 : b10 with
     | false => rfl
     | true => rw [h10] at hR; have := hR.m10 rfl; simp [hfl] at this
    obtain ⟨o,ho,hd⟩ := (mem_ready.1 hi).2
    cases ho
    have e5 : b5 = true := hd ⟨5,.data⟩ (by simp) rfl
    clear hd
    obtain rfl := hR.f5 e5
    have e7 : b7 = false := by
     cases h7 : b7 with
     | false => rfl
     | true => rw [h7] at hR; have := hR.m7 rfl; simp [hfl] at this
    obtain rfl : w' = X0 := by rw [hR.st,e10,e7,hfl]; rfl
    refine wpOp_step rfl (fun K hK => ?_)
    go_simp
    exact hK _ _ ⟨b0,b1,b2,b3,b4,b5,true,b7,b8,b9,b10,v0,v1,v2,v3,v4,_,_,v7,v8,v9,rfl,rfl,⟨hR.f0,hR.f1,hR.f2,hR.f3,hR.f4,hR.f5,fun _ => rfl,hR.f7,hR.f8,hR.f9,fun _ => rfl,hR.m9,fun h => absurd h (by rw [e10]; decide),by rw [e10,e7]; rfl⟩⟩
   ·have hfl : b7 = false := by simpa using hl
    have e10 : b10 = false := by
     cases h10 : b10 with
     | false => rfl
     | true => rw [h10] at hR; have := hR.m10 rfl; simp [hfl] at this
    obtain ⟨o,ho,hd⟩ := (mem_ready.1 hi).2
    cases ho
    have e4 : b4 = true := hd ⟨4,.data⟩ (by simp) rfl
    have e6 : b6 = true := hd ⟨6,.data⟩ (by simp) rfl
    clear hd
    obtain rfl := hR.f4 e4
    obtain rfl := hR.f6 e6
    obtain rfl : w' = X1 := by rw [hR.st,e10,hfl,e6]; rfl
    exact step_append rfl rfl (.tmp 20) (.tmp 22) 32 rfl hrun ⟨b0,b1,b2,b3,b4,b5,b6,true,b8,b9,b10,v0,v1,v2,v3,_,v5,_,_,v8,v9,rfl,rfl,⟨hR.f0,hR.f1,hR.f2,hR.f3,hR.f4,hR.f5,hR.f6,fun _ => rfl,hR.f8,hR.f9,fun _ => e6,hR.m9,fun h => absurd h (by rw [e10]; decide),by rw [e10]; rfl⟩⟩
   ·have hfl : b8 = false := by simpa using hl
    have e10 : b10 = false := by
     cases h10 : b10 with
     | false => rfl
     | true => rw [h10] at hR; have := hR.m10 rfl; simp [hfl] at this
    obtain ⟨o,ho,hd⟩ := (mem_ready.1 hi).2
    cases ho
    have e0 : b0 = true := hd ⟨0,.data⟩ (by simp) rfl
    clear hd
    obtain rfl := hR.f0 e0
    refine wpOp_step rfl (fun K hK => ?_)
    go_simp
    exact hK _ _ ⟨b0,b1,b2,b3,b4,b5,b6,b7,true,b9,b10,_,v1,v2,v3,v4,v5,v6,v7,_,v9,rfl,rfl,⟨hR.f0,hR.f1,hR.f2,hR.f3,hR.f4,hR.f5,hR.f6,hR.f7,fun _ => rfl,hR.f9,hR.m7,fun _ => rfl,fun h => absurd h (by rw [e10]; decide),hR.st⟩⟩
   ·have hfl : b9 = false := by simpa using hl
    have e10 : b10 = false := by
     cases h10 : b10 with
     | false => rfl
     | true => rw [h10] at hR; have := hR.m10 rfl; simp [hfl] at this
    obtain ⟨o,ho,hd⟩ := (mem_ready.1 hi).2
    cases ho
    have e8 : b8 = true := hd ⟨8,.data⟩ (by simp) rfl
    clear hd
    obtain rfl := hR.f8 e8
    refine wpOp_step rfl (fun K hK => ?_)
    go_simp
    exact hK _ _ ⟨b0,b1,b2,b3,b4,b5,b6,b7,b8,true,b10,v0,v1,v2,v3,v4,v5,v6,v7,_,_,rfl,rfl,⟨hR.f0,hR.f1,hR.f2,hR.f3,hR.f4,hR.f5,hR.f6,hR.f7,hR.f8,fun _ => rfl,hR.m7,fun _ => e8,fun h => absurd h (by rw [e10]; decide),hR.st⟩⟩
   ·have hfl : b10 = false := by simpa using hl
    have e10 : b10 = false := hfl
    obtain ⟨o,ho,hd⟩ := (mem_ready.1 hi).2
    cases ho
    have e7 : b7 = true := hd ⟨7,.data⟩ (by simp) rfl
    have e9 : b9 = true := hd ⟨9,.data⟩ (by simp) rfl
    have E0 : b0 = true := hd ⟨0,.phase⟩ (by simp) rfl
    have E1 : b1 = true := hd ⟨1,.phase⟩ (by simp) rfl
    have E2 : b2 = true := hd ⟨2,.phase⟩ (by simp) rfl
    have E3 : b3 = true := hd ⟨3,.phase⟩ (by simp) rfl
    have E4 : b4 = true := hd ⟨4,.phase⟩ (by simp) rfl
    have E5 : b5 = true := hd ⟨5,.phase⟩ (by simp) rfl
    have E6 : b6 = true := hd ⟨6,.phase⟩ (by simp) rfl
    have E8 : b8 = true := hR.m9 e9
    clear hd
    obtain rfl := hR.f7 e7
    obtain rfl := hR.f9 e9
    obtain rfl : w' = X2 := by rw [hR.st,hfl,e7]; rfl
    refine wpOp_step rfl (fun K hK => ?_)
    go_simp
    refine hK _ _ ⟨b0,b1,b2,b3,b4,b5,b6,b7,b8,b9,true,v0,v1,v2,v3,v4,v5,v6,_,v8,_,rfl,rfl,⟨hR.f0,hR.f1,hR.f2,hR.f3,hR.f4,hR.f5,hR.f6,hR.f7,hR.f8,hR.f9,hR.m7,hR.m9,fun _ => ⟨E0,E1,E2,E3,E4,E5,E6,e7,E8,e9⟩,?_⟩⟩
    first | rfl | exact hX3
  ·rintro l act w' ⟨b0,b1,b2,b3,b4,b5,b6,b7,b8,b9,b10,v0,v1,v2,v3,v4,v5,v6,v7,v8,v9,rfl,rfl,hR⟩ hr
   have e0 : b0 = true := ready_nil (i := 0) hr rfl (by intro e he hb; simp at he; (try (repeat' (rcases he with rfl | he))); all_goals (first | assumption | (exact absurd hb (by decide))))
   have e1 : b1 = true := ready_nil (i := 1) hr rfl (by intro e he hb; simp at he; (try (repeat' (rcases he with rfl | he))); all_goals (first | assumption | (exact absurd hb (by decide))))
   have e2 : b2 = true := ready_nil (i := 2) hr rfl (by intro e he hb; simp at he; (try (repeat' (rcases he with rfl | he))); all_goals (first | assumption | (exact absurd hb (by decide))))
   have e3 : b3 = true := ready_nil (i := 3) hr rfl (by intro e he hb; simp at he; (try (repeat' (rcases he with rfl | he))); all_goals (first | assumption | (exact absurd hb (by decide))))
   have e4 : b4 = true := ready_nil (i := 4) hr rfl (by intro e he hb; simp at he; (try (repeat' (rcases he with rfl | he))); all_goals (first | assumption | (exact absurd hb (by decide))))
   have e5 : b5 = true := ready_nil (i := 5) hr rfl (by intro e he hb; simp at he; (try (repeat' (rcases he with rfl | he))); all_goals (first | assumption | (exact absurd hb (by decide))))
   have e6 : b6 = true := ready_nil (i := 6) hr rfl (by intro e he hb; simp at he; (try (repeat' (rcases he with rfl | he))); all_goals (first | assumption | (exact absurd hb (by decide))))
   have e7 : b7 = true := ready_nil (i := 7) hr rfl (by intro e he hb; simp at he; (try (repeat' (rcases he with rfl | he))); all_goals (first | assumption | (exact absurd hb (by decide))))
   have e8 : b8 = true := ready_nil (i := 8) hr rfl (by intro e he hb; simp at he; (try (repeat' (rcases he with rfl | he))); all_goals (first | assumption | (exact absurd hb (by decide))))
   have e9 : b9 = true := ready_nil (i := 9) hr rfl (by intro e he hb; simp at he; (try (repeat' (rcases he with rfl | he))); all_goals (first | assumption | (exact absurd hb (by decide))))
   have e10 : b10 = true := ready_nil (i := 10) hr rfl (by intro e he hb; simp at he; (try (repeat' (rcases he with rfl | he))); all_goals (first | assumption | (exact absurd hb (by decide))))
   subst e0 e1 e2 e3 e4 e5 e6 e7 e8 e9 e10
   have h0 := (hR.f0 rfl).symm
   subst h0
   have h1 := (hR.f1 rfl).symm
   subst h1
   have h2 := (hR.f2 rfl).symm
   subst h2
   have h3 := (hR.f3 rfl).symm
   subst h3
   have h4 := (hR.f4 rfl).symm
   subst h4
   have h5 := (hR.f5 rfl).symm
   subst h5
   have h6 := (hR.f6 rfl).symm
   subst h6
   have h7 := (hR.f7 rfl).symm
   subst h7
   have h8 := (hR.f8 rfl).symm
   subst h8
   have h9 := (hR.f9 rfl).symm
   subst h9
   have hst : X3 = w' := hR.st.symm
   subst hst
   clear hr hR
   have hBf := unhide HB4
   have hFf := unhide HF4
   go_wp2
   go_end0
   exact ⟨rfl,_,_,hBf,hFf,unhide HO1,unhide HO2⟩
  ·simp
  ·refine ⟨false,false,false,false,false,false,false,false,false,false,false,undef,undef,undef,undef,undef,undef,undef,undef,undef,undef,rfl,rfl,?_⟩
   constructor
   all_goals (first | (intro h; cases h; done) | rfl)
 ·simp
 ·refine ⟨false,false,false,false,false,false,false,false,false,false,false,undef,undef,undef,undef,undef,undef,undef,undef,undef,undef,rfl,rfl,?_⟩
  constructor
  all_goals (first | (intro h; cases h; done) | rfl)
end Go.Proofs.YtecmcjlgknfnlaaDoor
namespace Go.Proofs.YtecmcjlgknfnlaaDoor
open Go.RowKit
theorem rlimb_any (a : Option Addr) (n cap i : Nat) (xs : List Nat) (w : World) (hn : xs.length = n) (hl : Lim w a xs) (hw : Pl.Wf xs) (hi : i < 9223372036854775808) :
  Calls Tryd.prog 123 #[.slice a n cap,.int .i64 (i : Int)] w fun e w' => e = .returned (.int .u64 ((xs[i]?.getD 0 : Nat) : Int)) ∧ w = w' := by
 by_cases hlt : i < n
 ·rcases hl.parts with hx | ⟨hp,b,off,rfl,hltb,hc⟩
  ·rw [hx] at hn; simp at hn; omega
  ·have hcx := hc i (by omega)
   have hx1 := Pl.wf_at hw i
   have hli : (i : Int) < (n : Int) := by omega
   generalize xs[i]?.getD 0 = x at *
   clear hc hl hlt
   go_enter Tryd.func123,Tryd.ntmps123
   go_wp2
   go_ret
   exact ⟨rfl,rfl⟩
 ·have hz : xs[i]?.getD 0 = 0 := by rw [List.getElem?_eq_none (by omega)]; rfl
  rw [hz]
  have hli : ¬ (i : Int) < (n : Int) := by omega
  clear hlt hz hl hn
  go_enter Tryd.func123,Tryd.ntmps123
  go_wp2
  go_ret
  exact ⟨rfl,rfl⟩
theorem and_one_u64 (e : Nat) (h : e < 18446744073709551616) : Go.bits .and .u64 (e : Int) 1 = ((e % 2 : Nat) : Int) := by
 have h1 : (BitVec.ofInt 64 (e : Int)).toNat = e := by
  rw [BitVec.ofInt_natCast,BitVec.toNat_ofNat]; exact Nat.mod_eq_of_lt (by omega)
 show IntKind.u64.wrap ((BitVec.ofInt 64 (e : Int) &&& BitVec.ofInt 64 1).toNat : Int) = _
 rw [BitVec.toNat_and,h1,show (BitVec.ofInt 64 1).toNat = 1 from rfl,Nat.and_one_is_mod,IntKind.wrap_u64]
 omega
set_option maxHeartbeats 800000 in
theorem rbit_any (a : Option Addr) (n cap m k : Nat) (w : World) (h : Num w a n m) (hk : k < 9223372036854775808) :
  Calls Tryd.prog 77 #[.agg #[.slice a n cap],.int .i64 (k : Int)] w fun e w' => e = .returned (.tuple #[.bool (decide (m / 2 ^ k % 2 = 1)),.int .i64 0]) ∧ Below w.heap.size w w' := by
 obtain ⟨xs,hn,hl,hw,hN,hv,hb⟩ := h
 have hck := fun o1 : Obj => rcheck_any a cap xs (w.alloc o1) (by omega) (hl.alloc o1)
 rw [hn,chk_ok (by omega) hN] at hck
 have HK := hide hck
 have hbr := bit_row hw k
 rw [hv] at hbr
 obtain ⟨wh,hwh⟩ : ∃ wh,wh = k / 32 := ⟨_,rfl⟩
 obtain ⟨pt,hpt⟩ : ∃ pt,pt = k % 32 := ⟨_,rfl⟩
 have hq : (k : Int) / 32 = (wh : Int) := by omega
 have hr : (k : Int) % 32 = (pt : Int) := by omega
 have hpk : pt < 32 := by omega
 rw [← hwh,← hpt] at hbr
 have hx1 : xs[wh]?.getD 0 < 4294967296 := Pl.wf_at hw wh
 have HL := hide (fun w (h : Lim w a xs) => rlimb_any a n cap wh xs w hn h hw (by omega))
 have HBR := hide hbr
 have hwb : wh < 288230376151711744 := by omega
 generalize xs[wh]?.getD 0 = x at *
 clear hbr hck hn hv hN hwh hpt
 go_enter Tryd.func77,Tryd.ntmps77
 go_wp2_with fail
 refine (unhide HK _).mono ?_
 rintro e w1 ⟨rfl,hb1⟩
 have hbx := (Box.made w (.slice a n cap)).kept hb1
 have hcx := hbx.cell
 have HB := hide (gr_trans (gr_alloc w (.cells #[.slice a n cap] 24)) hb1)
 clear hb1 HK
 go_wp2_with fail
 refine (unhide HL w1 (hl.below (unhide HB))).mono ?_
 rintro e w2 ⟨rfl,rfl⟩
 go_wp2
 go_ret2
 refine ⟨ret_pair ?_,unhide HB⟩
 rw [show (x : Int) / 2 ^ pt = ((x / 2 ^ pt : Nat) : Int) by rw [Int.natCast_ediv,Int.natCast_pow]; rfl,and_one_u64 _ (Nat.lt_of_le_of_lt (Nat.div_le_self _ _) (by omega)),unhide HBR,beq_one]
end Go.Proofs.YtecmcjlgknfnlaaDoor
namespace Go.Proofs.YtecmcjlgknfnlaaDoor
open Go.RowKit
end Go.Proofs.YtecmcjlgknfnlaaDoor
namespace Go.Proofs.YtecmcjlgknfnlaaDoor
open Go.RowKit
end Go.Proofs.YtecmcjlgknfnlaaDoor
