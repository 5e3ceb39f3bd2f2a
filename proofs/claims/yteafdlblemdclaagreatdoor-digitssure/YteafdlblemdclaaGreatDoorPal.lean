/- Of what DigitsSureRow stands on: Mul Sub. -/
import Derived.Test.YteafdlblemdclaaGreatDoorPak
import Derived.Test.YteafdlblemdclaaGreatDoorPad
import Derived.BigQuiet
import Derived.Test.YteafdlblemdclaaGreatDoorPai
namespace Go.Proofs.YteafdlblemdclaaGreatDoor
open Go.RowKit
set_option maxHeartbeats 1000000
theorem pow_le_mul {xs ys:List Nat} (hx:Pl.Norm xs) (hy:Pl.Norm ys) (px:0 < xs.length) (py:0 < ys.length) (h:16384 < xs.length+ys.length - 1):Over (Pl.val xs * Pl.val ys):=by
 have h1:=Pl.norm_lower hx px
 have h2:=Pl.norm_lower hy py
 have h3:=Nat.mul_le_mul h1 h2
 rw [← Nat.pow_add] at h3
 exact ⟨Nat.le_trans (Pl.pow_le (by rw [Pl.top_eq]; omega)) h3⟩
theorem mine_nil (w:World) (base:Nat):Mine w base none 0 0 0:=⟨[],rfl,Or.inl ⟨rfl,rfl⟩,Pl.wf_nil,Pl.norm_nil,rfl,by omega⟩
theorem mul_nil (a a':Option Addr) (cap cap':Nat) (xs ys:List Nat) (w:World) (hl:Lim w a xs) (hl':Lim w a' ys) (hN:Pl.Norm xs) (hN':Pl.Norm ys) (hb:xs.length≤16384) (hb':ys.length≤16384) (h0:xs = []∨ys = []) :
  Calls Tryz.prog 34 #[.agg #[.slice a xs.length cap],.agg #[.slice a' ys.length cap']] w fun e w'=>Ans w' w.heap.size e (Pl.val xs * Pl.val ys)∧Below w.heap.size w w':=by
 have hz:(chk2 xs ys != 0) = false:=by rw [chk2_ok (chk_ok hb hN) (chk_ok hb' hN')]; rfl
 have hv:Pl.val xs * Pl.val ys = 0:=by rcases h0 with rfl|rfl <;> simp [Pl.val]
 rw [hv]
 clear hv
 by_cases hx:xs = []
 ·subst hx
  clear h0
  go_enter Tryz.func34,Tryz.ntmps34
  go_wp2_with fail
  refine (checkBoth_any a a' cap cap' [] ys _ (by simp) (by omega) (((hl.alloc _).alloc _).alloc _) (((hl'.alloc _).alloc _).alloc _)).mono ?_
  rintro e w1 ⟨rfl,hb1⟩
  obtain ⟨hc1,hf1⟩:=bcell hb1
  have hB:=hide (gr_trans (gr_trans (gr_trans (gr_alloc _ _) (gr_alloc _ _)) (gr_alloc _ _)) hb1)
  clear hb1
  go_wp2_with fail
  go_quiet (fail)
  go_wp2
  exact bodyPost_ret (v:=.tuple #[.agg #[.slice none 0 0],.int .i64 0]) (by simp [results,Tryz.results34,go_sem,hc1]) rfl ⟨Or.inl ⟨_,_,_,rfl,mine_nil _ _⟩,(below_drewN (unhide hB) nq).setCell (by simp; omega) _⟩
 ·have hy:ys = []:=h0.resolve_left hx
  subst hy
  have hxl:((xs.length:Int) == 0) = false:=by simpa using hx
  clear h0
  go_enter Tryz.func34,Tryz.ntmps34
  go_wp2_with fail
  refine (checkBoth_any a a' cap cap' xs [] _ (by omega) (by simp) (((hl.alloc _).alloc _).alloc _) (((hl'.alloc _).alloc _).alloc _)).mono ?_
  rintro e w1 ⟨rfl,hb1⟩
  obtain ⟨hc1,hf1⟩:=bcell hb1
  have hB:=hide (gr_trans (gr_trans (gr_trans (gr_alloc _ _) (gr_alloc _ _)) (gr_alloc _ _)) hb1)
  clear hb1
  go_wp2_with fail
  go_quiet (fail)
  go_wp2
  exact bodyPost_ret (v:=.tuple #[.agg #[.slice none 0 0],.int .i64 0]) (by simp [results,Tryz.results34,go_sem,hc1]) rfl ⟨Or.inl ⟨_,_,_,rfl,mine_nil _ _⟩,(below_drewN (unhide hB) nq).setCell (by simp; omega) _⟩
theorem mul_some (b off b' off' cap cap':Nat) (xs ys:List Nat) (w:World) (hp:0 < xs.length) (hp':0 < ys.length) (hlt:b < w.heap.size) (hlt':b' < w.heap.size)
  (hc:∀ j,j < xs.length→w.cell? ⟨b,off+j,none⟩ = some (.int .u32 ((xs[j]?.getD 0:Nat):Int)))
  (hc':∀ j,j < ys.length→w.cell? ⟨b',off'+j,none⟩ = some (.int .u32 ((ys[j]?.getD 0:Nat):Int)))
  (hw:Pl.Wf xs) (hw':Pl.Wf ys) (hN:Pl.Norm xs) (hN':Pl.Norm ys) (hb:xs.length≤16384) (hb':ys.length≤16384) :
  Calls Tryz.prog 34 #[.agg #[.slice (some ⟨b,off,none⟩) xs.length cap],.agg #[.slice (some ⟨b',off',none⟩) ys.length cap']] w fun e w'=>Ans w' w.heap.size e (Pl.val xs * Pl.val ys)∧Below w.heap.size w w':=by
 have hz:(chk2 xs ys != 0) = false:=by rw [chk2_ok (chk_ok hb hN) (chk_ok hb' hN')]; rfl
 have hl:Lim w (some ⟨b,off,none⟩) xs:=Or.inr ⟨b,off,rfl,hc⟩
 have hl':Lim w (some ⟨b',off',none⟩) ys:=Or.inr ⟨b',off',rfl,hc'⟩
 have hxl:((xs.length:Int) == 0) = false:=by simp; intro h; simp [h] at hp
 have hyl:((ys.length:Int) == 0) = false:=by simp; intro h; simp [h] at hp'
 have HC:=hide hc
 have HC':=hide hc'
 clear hc hc'
 go_enter Tryz.func34,Tryz.ntmps34
 go_wp2_with fail
 refine (checkBoth_any _ _ cap cap' xs ys _ (by omega) (by omega) (((hl.alloc _).alloc _).alloc _) (((hl'.alloc _).alloc _).alloc _)).mono ?_
 rintro e w1 ⟨rfl,hb1⟩
 obtain ⟨hc1,hf1⟩:=bcell hb1
 have hs1:w.heap.size+1+1 < w1.heap.size:=by have:=hb1.size; simp at this; omega
 have hB:=hide (gr_trans (gr_trans (gr_trans (gr_alloc _ _) (gr_alloc _ _)) (gr_alloc _ _)) hb1)
 clear hb1
 go_wp2_with fail
 go_quiet (fail)
 by_cases hbig:xs.length+ys.length - 1≤16384
 ·go_wp2_with fail
  have hQ:w1.cell? ⟨w.heap.size+1+1,0,none⟩ = some (.slice none 0 0):=by rw [hc1 _ _ (by simp)]; simp [go_sem]
  have hF:w1.frozen? ⟨w.heap.size+1+1,0,none⟩ = false:=by rw [hf1 _ _ (by simp)]; simp [go_sem]
  have hX:∀ j,j < xs.length→(w1.drewN nq).cell? ⟨b,off+j,none⟩ = some (.int .u32 ((xs[j]?.getD 0:Nat):Int)):=fun j hj=>((unhide hB).cell (by exact hlt)).trans (unhide HC j hj)
  have hY:∀ j,j < ys.length→(w1.drewN nq).cell? ⟨b',off'+j,none⟩ = some (.int .u32 ((ys[j]?.getD 0:Nat):Int)):=fun j hj=>((unhide hB).cell (by exact hlt')).trans (unhide HC' j hj)
  have hsw:w.heap.size≤w1.heap.size:=(unhide hB).size
  refine (multiply_any b off cap b' off' cap' xs ys (w1.drewN nq) hp hb hb' hw hw' (by exact Nat.lt_of_lt_of_le hlt hsw) (by exact Nat.lt_of_lt_of_le hlt' hsw) hX hY).mono ?_
  rintro e w2 ⟨zs,rfl,hzl,wz,hzv,hrz,hb2⟩
  have HV:=hide hzv
  clear hzv hX hY
  go_wp2_with fail
  refine (limited_at _ w1.heap.size _ _ zs w2 hzl hrz (Nat.le_refl _) (Nat.le_refl _) (by omega) wz).mono ?_
  rintro e w3 ⟨hans,hb3⟩
  have hB3:=gr_trans hb2 hb3
  have hq:w3.cell? ⟨w.heap.size+1+1,0,none⟩ = some (.slice none 0 0):=(hB3.cell (p:=⟨w.heap.size+1+1,0,none⟩) hs1).trans hQ
  have hf:w3.frozen? ⟨w.heap.size+1+1,0,none⟩ = false:=(hB3.frozen (p:=⟨w.heap.size+1+1,0,none⟩) hs1).trans hF
  have hBB:=hide (gr_trans (below_drewN (unhide hB) nq) hB3)
  rw [unhide HV] at hans
  clear hb2 hb3 hB3 hrz hzl wz hc1 hf1
  rcases hans with ⟨a3,n3,cap3,rfl,hm⟩|⟨rfl,hm⟩
  ·have HM:=hide hm
   clear hm
   go_wp2
   exact bodyPost_ret (v:=.tuple #[.agg #[.slice a3 n3 cap3],.int .i64 0]) (by simp [results,Tryz.results34,go_sem,hq]) rfl ⟨Or.inl ⟨_,_,_,rfl,((unhide HM).set hs1 _).mono hsw⟩,(unhide hBB).setCell (by simp; omega) _⟩
  ·have HM:=hide hm
   clear hm
   go_wp2
   exact bodyPost_ret (v:=.tuple #[.agg #[.slice none 0 0],.int .i64 4]) (by simp [results,Tryz.results34,go_sem,hq]) rfl ⟨Or.inr ⟨rfl,unhide HM⟩,(unhide hBB).setCell (by simp; omega) _⟩
 ·go_wp2
  exact bodyPost_ret (v:=.tuple #[.agg #[.slice none 0 0],.int .i64 4]) (by simp [results,Tryz.results34,go_sem,hc1]) rfl ⟨Or.inr ⟨rfl,pow_le_mul hN hN' hp hp' (by omega)⟩,(below_drewN (unhide hB) nq).setCell (by simp; omega) _⟩
theorem mul_any (a a':Option Addr) (n n' cap cap' m m':Nat) (w:World) (h:Num w a n m) (h':Num w a' n' m') :
  Calls Tryz.prog 34 #[.agg #[.slice a n cap],.agg #[.slice a' n' cap']] w fun e w'=>Ans w' w.heap.size e (m * m')∧Below w.heap.size w w':=by
 obtain ⟨xs,hn,hl,hw,hN,hv,hb⟩:=h
 obtain ⟨ys,hn',hl',hw',hN',hv',hb'⟩:=h'
 subst hn hn' hv hv'
 rcases hl.parts with hx|⟨hp,b,off,rfl,hlt,hc⟩
 ·exact mul_nil a a' cap cap' xs ys w hl hl' hN hN' hb hb' (Or.inl hx)
 ·rcases hl'.parts with hy|⟨hp',b',off',rfl,hlt',hc'⟩
  ·exact mul_nil _ a' cap cap' xs ys w hl hl' hN hN' hb hb' (Or.inr hy)
  ·exact mul_some b off b' off' cap cap' xs ys w hp hp' hlt hlt' hc hc' hw hw' hN hN' hb hb'
def SubAns (w:World) (base:Nat) (e:Ending) (m m':Nat):Prop:=
 (m < m'∧e = .returned (.tuple #[.agg #[.slice none 0 0],.bool false,.int .i64 0])) ∨
 (m'≤m∧∃ a n cap,e = .returned (.tuple #[.agg #[.slice a n cap],.bool true,.int .i64 0])∧Mine w base a n cap (m - m'))
theorem cmp_ge {m m':Nat} (h:m'≤m):decide (cmpI m m' < 0) = false:=by
 by_cases e:m = m'
 ·rw [e,cmpI_eq]; decide
 ·rw [cmpI_gt (by omega)]; decide
theorem Box.but {w w':World} {p C:Nat} {v:Value} (h:Box w p v) (k:Only C w w') (hne:p≠C):Box w' p v:=by
 unfold Box; rw [k.block p hne]; exact h
theorem Mine.cut0 {w:World} {base c m:Nat} {a:Option Addr} (h:Mine w base a 0 c m):Own w base (.slice a 0 0) []:=by
 obtain ⟨xs,hn,ho,_⟩:=h
 obtain rfl:xs = []:=List.length_eq_zero_iff.1 hn
 rcases ho with ⟨e,_⟩|⟨g,cap,cur,e,hg,hh,h1,h2,h3,hc⟩
 ·injection e with e1 e2 e3
  exact Or.inl ⟨by rw [e1],rfl⟩
 ·injection e with e1 e2 e3
  exact Or.inr ⟨g,0,cur,by rw [e1]; rfl,hg,hh,Nat.zero_le _,Nat.zero_le _,by omega,fun j hj=>by simp at hj⟩
theorem checkBoth_num (a a':Option Addr) (n n' cap cap' m m':Nat) (w:World) (h:Num w a n m) (h':Num w a' n' m') :
  Calls Tryz.prog 68 #[.agg #[.slice a n cap],.agg #[.slice a' n' cap']] w fun e w'=>e = .returned (.int .i64 0)∧Below w.heap.size w w':=by
 obtain ⟨zs,kn,kl,kw,kN,kv,kb⟩:=h
 obtain ⟨ys,kn',kl',kw',kN',kv',kb'⟩:=h'
 have:=checkBoth_any a a' cap cap' zs ys w (by omega) (by omega) kl kl'
 rw [kn,kn',chk2_ok (chk_ok (by omega) kN) (chk_ok (by omega) kN')] at this
 exact this
theorem sub_lt (a a':Option Addr) (n n' cap cap' m m':Nat) (w:World) (h:Num w a n m) (h':Num w a' n' m') (hlt:m < m') :
  Calls Tryz.prog 194 #[.agg #[.slice a n cap],.agg #[.slice a' n' cap']] w fun e w'=>SubAns w' w.heap.size e m m'∧Below w.heap.size w w':=by
 have hN:=h
 have hN':=h'
 obtain ⟨xs,hn,hl,hw,hNn,hv,hb⟩:=h
 obtain ⟨ys,hn',hl',hw',hNn',hv',hb'⟩:=h'
 have hck:=fun (o1 o2 o3:Obj)=>checkBoth_any a a' cap cap' xs ys (((w.alloc o1).alloc o2).alloc o3) (by omega) (by omega) (((hl.alloc _).alloc _).alloc _) (((hl'.alloc _).alloc _).alloc _)
 rw [hn,hn',chk2_ok (chk_ok (by omega) hNn) (chk_ok (by omega) hNn')] at hck
 have HK:=hide hck
 have hcm:=cmpI_lt hlt
 have HLT:=hide hlt
 clear hck hn hn' hv hv' hl hl' hlt
 go_enter Tryz.func194,Tryz.ntmps194
 go_wp2_with fail
 refine (unhide HK _ _ _).mono ?_
 rintro e w1 ⟨rfl,hb1⟩
 obtain ⟨hc1,hf1⟩:=bcell hb1
 have hby:=(Box.made ((w.alloc (.cells #[.slice a n cap] 28)).alloc (.cells #[.slice a' n' cap'] 28)) (.slice none 0 0)).kept hb1
 simp only [World.size_alloc] at hby
 have hB:=hide (gr_trans (gr_trans (gr_trans (gr_alloc w (.cells #[.slice a n cap] 28)) (gr_alloc _ (.cells #[.slice a' n' cap'] 28))) (gr_alloc _ (.cells #[.slice none 0 0] 28))) hb1)
 have h1:=hN.kept (unhide hB)
 have h1':=hN'.kept (unhide hB)
 clear hb1 HK hN hN'
 go_wp2_with fail
 refine (compare_any a a' n n' cap cap' m m' w1 h1 h1').mono ?_
 rintro e w2 ⟨rfl,hb2⟩
 rw [hcm]
 have hX2:=hby.kept hb2
 have hcx:=hX2.cell
 have hfx:=hX2.frozen
 have HB2:=hide (gr_trans (unhide hB) hb2)
 clear hb2 h1 h1' hc1 hf1
 go_wp2
 exact bodyPost_ret (v:=.tuple #[.agg #[.slice none 0 0],.bool false,.int .i64 0]) (by simp [results,Tryz.results194,go_sem,hcx]) rfl ⟨Or.inl ⟨unhide HLT,rfl⟩,(unhide HB2).setCell (Nat.le_add_right _ 2) _⟩
end Go.Proofs.YteafdlblemdclaaGreatDoor
