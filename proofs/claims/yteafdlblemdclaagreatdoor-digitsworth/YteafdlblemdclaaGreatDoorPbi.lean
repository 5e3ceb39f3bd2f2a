/- Of what DigitsWorthRow stands on: RSame. -/
import Derived.Test.YteafdlblemdclaaGreatDoorPbf
import Derived.BigQuiet
namespace Go.Proofs.YteafdlblemdclaaGreatDoor
open Go.RowKit
set_option maxHeartbeats 2000000
set_option maxRecDepth 20000
theorem sameNat_some (b off b' off' cap cap' n:Nat) (xs ys:List Nat) (w:World) (hxn:Hid (xs.length = n)) (hyn:Hid (ys.length = n)) (hlt:b < w.heap.size) (hlt':b' < w.heap.size) (hbig:n≤16384)
  (hc:∀ j,j < n→w.cell? ⟨b,off+j,none⟩ = some (.int .u32 ((xs[j]?.getD 0:Nat):Int)))
  (hc':∀ j,j < n→w.cell? ⟨b',off'+j,none⟩ = some (.int .u32 ((ys[j]?.getD 0:Nat):Int))) :
  Calls Tryz.prog 38 #[.agg #[.slice (some ⟨b,off,none⟩) n cap],.agg #[.slice (some ⟨b',off',none⟩) n cap']] w
   fun e w'=>e = .returned (.bool (decide (xs = ys)))∧Below w.heap.size w w':=by
 have hx1:=(Box.made w (.slice (some ⟨b,off,none⟩) n cap)).alloc (.cells #[.slice (some ⟨b',off',none⟩) n cap'] 28)
 have hx2:=Box.made (w.alloc (.cells #[.slice (some ⟨b,off,none⟩) n cap] 28)) (.slice (some ⟨b',off',none⟩) n cap')
 simp only [World.size_alloc] at hx2
 have HB:=gr_trans (gr_alloc w (.cells #[.slice (some ⟨b,off,none⟩) n cap] 28)) (gr_alloc _ (.cells #[.slice (some ⟨b',off',none⟩) n cap'] 28))
 go_enter Tryz.func38,Tryz.ntmps38
 go_wp2
 generalize (w.alloc (.cells #[.slice (some ⟨b,off,none⟩) n cap] 28)).alloc (.cells #[.slice (some ⟨b',off',none⟩) n cap'] 28) = w2 at *
 go_loopw [5] (fun t wr=>∃ k:Nat,k≤n∧t = .int .i64 (k:Int)∧xs.take k = ys.take k∧Below w2.heap.size w2 wr) (fun t _=>n - (intOf t).toNat)
 case atStart=>exact ⟨0,Nat.zero_le _,rfl,by simp,gr_refl _⟩
 case round=>
  obtain ⟨k,hk,rfl,hd,hbel⟩:=hrel
  have hk1:=(hx1.kept hbel).cell
  have hk2:=(hx2.kept hbel).cell
  have hBw:=gr_trans HB hbel
  by_cases hkn:k = n
  ·subst hkn
   have hxl:=unhide hxn
   have hyl:=unhide hyn
   have he:xs = ys:=by
    rw [List.take_of_length_le (by omega),List.take_of_length_le (by omega)] at hd; exact hd
   have HE:=hide he
   have HBw:=hide hBw
   clear hd he hbel hBw hc hc' hxl hyl
   go_wp2
   go_ret
   exact ⟨ret_bool (by simp [unhide HE]),unhide HBw⟩
  ·obtain ⟨x,hxx⟩:∃ x,x = xs[k]?.getD 0:=⟨_,rfl⟩
   obtain ⟨y,hyy⟩:∃ y,y = ys[k]?.getD 0:=⟨_,rfl⟩
   have hcx:wr.cell? ⟨b,off+k,none⟩ = some (.int .u32 (x:Int)):=by rw [hxx]; exact (hBw.cell (by exact hlt)).trans (hc k (by omega))
   have hcy:wr.cell? ⟨b',off'+k,none⟩ = some (.int .u32 (y:Int)):=by rw [hyy]; exact (hBw.cell (by exact hlt')).trans (hc' k (by omega))
   have hxl:=unhide hxn
   have hyl:=unhide hyn
   have hj2:(k:Int) < (n:Int):=by omega
   have HL:Hid (x = y→xs.take (k+1) = ys.take (k+1)):=fun e=>by
    rw [List.take_add_one,List.take_add_one,hd]
    congr 1
    rw [List.getElem?_eq_getElem (by omega:k < xs.length)] at hxx ⊢
    rw [List.getElem?_eq_getElem (by omega:k < ys.length)] at hyy ⊢
    simp at hxx hyy
    simp [← hxx,← hyy,e]
   have HN:Hid (x≠y→xs≠ys):=fun e e2=>e (by rw [hxx,hyy,e2])
   have HBw:=hide hBw
   have HBl:=hide hbel
   clear hxx hyy hd hxl hyl hc hc' hBw hbel
   go_wp2_with fail
   go_quiet (fail)
   by_cases he:x = y
   ·subst he
    go_wp2
    go_roundw
    case rel=>exact ⟨k+1,by omega,by go_num,unhide HL rfl,below_drewN (unhide HBl) _⟩
    case measure=>simp [intOf]; omega
   ·have hf:((x:Int) != (y:Int)) = true:=by simp; omega
    have HE:=hide he
    clear he
    go_wp2
    go_ret
    exact ⟨ret_bool (by simp [unhide HN (unhide HE)]),below_drewN (unhide HBw) _⟩
theorem sameNat_any (a a':Option Addr) (n n' cap cap' m m':Nat) (w:World) (h:Num w a n m) (h':Num w a' n' m') :
  Calls Tryz.prog 38 #[.agg #[.slice a n cap],.agg #[.slice a' n' cap']] w fun e w'=>e = .returned (.bool (decide (m = m')))∧Below w.heap.size w w':=by
 by_cases he:n = n'
 ·subst he
  obtain ⟨xs,hn,hl,hw,hN,hv,hb⟩:=h
  obtain ⟨ys,hn',hl',hw',hN',hv',hb'⟩:=h'
  have hdec:decide (m = m') = decide (xs = ys):=by
   rw [decide_eq_decide]
   exact ⟨fun e=>Pl.val_inj hw hw' hN hN' (by omega),fun e=>by rw [← hv,← hv',e]⟩
  rw [hdec]
  rcases hl.parts with hx|⟨hp,b,off,rfl,hlt,hc⟩
  ·have hn0:n = 0:=by rw [← hn,hx]; rfl
   have hy:ys = []:=List.length_eq_zero_iff.1 (by omega)
   subst hx hy hn0
   clear hn hn' hv hv' hdec
   go_enter Tryz.func38,Tryz.ntmps38
   go_wp2
   refine wp_loop_rounds 1 ?_
   rw [rounds_succ]
   go_wp2
   go_ret
   exact ⟨rfl,gr_trans (gr_alloc _ _) (gr_alloc _ _)⟩
  ·rcases hl'.parts with hy|⟨hp',b',off',rfl,hlt',hc'⟩
   ·rw [hy] at hn'; simp at hn'; omega
   ·exact sameNat_some b off b' off' cap cap' n xs ys w (hide hn) (hide hn') hlt hlt' hb (fun j hj=>hc j (by omega)) (fun j hj=>hc' j (by omega))
 ·have hne:((n:Int) != (n':Int)) = true:=by simp; omega
  have hm:m≠m':=fun e=>he (by subst e; exact h.same h')
  have HM:=hide hm
  clear hm he
  go_enter Tryz.func38,Tryz.ntmps38
  go_wp2
  go_ret
  exact ⟨ret_bool (by simp [unhide HM]),gr_trans (gr_alloc _ _) (gr_alloc _ _)⟩
theorem same_dec {w w':World} {s t:Bool} {a1 a2 a3 a4:Option Addr} {n1 n2 n3 n4:Nat} {x y:Rat} (hx:Fq w s a1 n1 a2 n2 x) (hy:Fq w' t a3 n3 a4 n4 y) :
  decide (x = y) = ((s == t) && decide (x.num.natAbs = y.num.natAbs) && decide (x.den = y.den)):=by
 have h1:=hx.neg
 have h2:=hy.neg
 subst h1 h2
 by_cases h:x = y
 ·subst h; simp
 ·have:¬ ((decide (x.num < 0) = decide (y.num < 0)∧x.num.natAbs = y.num.natAbs)∧x.den = y.den):=by
   rintro ⟨⟨e1,e2⟩,e3⟩
   apply h
   refine Rat.ext ?_ e3
   rw [decide_eq_decide] at e1
   omega
  rw [decide_eq_false h]
  symm
  simp only [Bool.and_eq_false_iff,beq_eq_false_iff_ne,decide_eq_false_iff_not]
  by_cases e1:decide (x.num < 0) = decide (y.num < 0)
  ·by_cases e2:x.num.natAbs = y.num.natAbs
   ·exact Or.inr (fun e3=>this ⟨⟨e1,e2⟩,e3⟩)
   ·exact Or.inl (Or.inr e2)
  ·exact Or.inl (Or.inl e1)
theorem same_rat (s t:Bool) (a1 a2 a3 a4:Option Addr) (n1 n2 n3 n4 c1 c2 c3 c4:Nat) (x y:Rat) (w:World) (hx:Fq w s a1 n1 a2 n2 x) (hy:Fq w t a3 n3 a4 n4 y) :
  Calls Tryz.prog 13 #[.agg #[.bool s,.slice a1 n1 c1,.slice a2 n2 c2],.agg #[.bool t,.slice a3 n3 c3,.slice a4 n4 c4]] w fun e w'=>e = .returned (.bool (decide (x = y)))∧Below w.heap.size w w':=by
 have hS:=((Rs.begin w).alloc #[.bool s,.slice a1 n1 c1,.slice a2 n2 c2] 41).alloc #[.bool t,.slice a3 n3 c3,.slice a4 n4 c4] 41
 simp only [World.size_alloc] at hS
 have hdec:=hide (same_dec hx hy)
 go_enter Tryz.func13,Tryz.ntmps13
 go_wp2_with fail
 refine (sameNat_any a1 a3 n1 n3 c1 c3 _ _ _ (hx.num.kept hS.fr) (hy.num.kept hS.fr)).mono ?_
 rintro en w1 ⟨rfl,hb1⟩
 replace hS:=hS.kept hb1
 obtain ⟨⟨k0,k1,k2,-⟩,⟨k3,k4,k5,-⟩,-⟩:=hS.cells
 go_wp2_with fail
 refine (sameNat_any a2 a4 n2 n4 c2 c4 _ _ _ (hx.den.kept hS.fr) (hy.den.kept hS.fr)).mono ?_
 rintro en w2 ⟨rfl,hb2⟩
 replace hS:=hS.kept hb2
 clear k0 k1 k2 k3 k4 k5
 obtain ⟨⟨k0,k1,k2,-⟩,⟨k3,k4,k5,-⟩,-⟩:=hS.cells
 generalize decide (x.num.natAbs = y.num.natAbs) = p at *
 generalize decide (x.den = y.den) = q at *
 cases hst:s == t <;> cases p <;> cases q
 all_goals (go_wp2; go_ret; exact ⟨ret_bool (by rw [unhide hdec,hst]; rfl),hS.fr⟩)
end Go.Proofs.YteafdlblemdclaaGreatDoor
