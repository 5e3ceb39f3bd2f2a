/- Of what DigitsNamesRow stands on: Mul Div. -/
import Derived.Test.YtplihgoapiiigaaGreatDoorPai
import Derived.Test.YtplihgoapiiigaaGreatDoorPad
import Derived.BigQuiet
import Derived.Test.YtplihgoapiiigaaGreatDoorPag
namespace Go.Proofs.YtplihgoapiiigaaGreatDoor
open Go.RowKit
set_option maxHeartbeats 800000
theorem pow_le_mul {xs ys:List Nat} (hx:Pl.Norm xs) (hy:Pl.Norm ys) (px:0 < xs.length) (py:0 < ys.length) (h:16384 < xs.length+ys.length - 1):Over (Pl.val xs * Pl.val ys):=by
 have h1:=Pl.norm_lower hx px
 have h2:=Pl.norm_lower hy py
 have h3:=Nat.mul_le_mul h1 h2
 rw [← Nat.pow_add] at h3
 exact ⟨Nat.le_trans (Pl.pow_le (by rw [Pl.top_eq]; omega)) h3⟩
theorem mine_nil (w:World) (base:Nat):Mine w base none 0 0 0:=⟨[],rfl,Or.inl ⟨rfl,rfl⟩,Pl.wf_nil,Pl.norm_nil,rfl,by omega⟩
theorem mul_nil (a a':Option Addr) (cap cap':Nat) (xs ys:List Nat) (w:World) (hl:Lim w a xs) (hl':Lim w a' ys) (hN:Pl.Norm xs) (hN':Pl.Norm ys) (hb:xs.length≤16384) (hb':ys.length≤16384) (h0:xs = []∨ys = []) :
  Calls Tryz.prog 34 #[.agg #[.slice a xs.length cap],.agg #[.slice a' ys.length cap']] w fun e w'=>Ans w' w.heap.size e (Pl.val xs * Pl.val ys)∧Below w.heap.size w w':=by
 have hz:(chk2 xs ys != 0) = false:=by rw [chk2_ok (chk_ok hb hN) (chk_ok hb' hN')]; rfl
 have hv:Pl.val xs * Pl.val ys = 0:=by rcases h0 with rfl|rfl <;> simp [Pl.val]
 rw [hv]
 clear hv
 by_cases hx:xs = []
 ·subst hx
  clear h0
  go_enter Tryz.func34,Tryz.ntmps34
  go_wp2_with fail
  refine (checkBoth_any a a' cap cap' [] ys _ (by simp) (by omega) (((hl.alloc _).alloc _).alloc _) (((hl'.alloc _).alloc _).alloc _)).mono ?_
  rintro e w1 ⟨rfl,hb1⟩
  obtain ⟨hc1,hf1⟩:=bcell hb1
  have hB:=hide (gr_trans (gr_trans (gr_trans (gr_alloc _ _) (gr_alloc _ _)) (gr_alloc _ _)) hb1)
  clear hb1
  go_wp2_with fail
  go_quiet (fail)
  go_wp2
  exact bodyPost_ret (v:=.tuple #[.agg #[.slice none 0 0],.int .i64 0]) (by simp [results,Tryz.results34,go_sem,hc1]) rfl ⟨Or.inl ⟨_,_,_,rfl,mine_nil _ _⟩,(below_drewN (unhide hB) nq).setCell (by simp; omega) _⟩
 ·have hy:ys = []:=h0.resolve_left hx
  subst hy
  have hxl:((xs.length:Int) == 0) = false:=by simpa using hx
  clear h0
  go_enter Tryz.func34,Tryz.ntmps34
  go_wp2_with fail
  refine (checkBoth_any a a' cap cap' xs [] _ (by omega) (by simp) (((hl.alloc _).alloc _).alloc _) (((hl'.alloc _).alloc _).alloc _)).mono ?_
  rintro e w1 ⟨rfl,hb1⟩
  obtain ⟨hc1,hf1⟩:=bcell hb1
  have hB:=hide (gr_trans (gr_trans (gr_trans (gr_alloc _ _) (gr_alloc _ _)) (gr_alloc _ _)) hb1)
  clear hb1
  go_wp2_with fail
  go_quiet (fail)
  go_wp2
  exact bodyPost_ret (v:=.tuple #[.agg #[.slice none 0 0],.int .i64 0]) (by simp [results,Tryz.results34,go_sem,hc1]) rfl ⟨Or.inl ⟨_,_,_,rfl,mine_nil _ _⟩,(below_drewN (unhide hB) nq).setCell (by simp; omega) _⟩
theorem mul_some (b off b' off' cap cap':Nat) (xs ys:List Nat) (w:World) (hp:0 < xs.length) (hp':0 < ys.length) (hlt:b < w.heap.size) (hlt':b' < w.heap.size)
  (hc:∀ j,j < xs.length→w.cell? ⟨b,off+j,none⟩ = some (.int .u32 ((xs[j]?.getD 0:Nat):Int)))
  (hc':∀ j,j < ys.length→w.cell? ⟨b',off'+j,none⟩ = some (.int .u32 ((ys[j]?.getD 0:Nat):Int)))
  (hw:Pl.Wf xs) (hw':Pl.Wf ys) (hN:Pl.Norm xs) (hN':Pl.Norm ys) (hb:xs.length≤16384) (hb':ys.length≤16384) :
  Calls Tryz.prog 34 #[.agg #[.slice (some ⟨b,off,none⟩) xs.length cap],.agg #[.slice (some ⟨b',off',none⟩) ys.length cap']] w fun e w'=>Ans w' w.heap.size e (Pl.val xs * Pl.val ys)∧Below w.heap.size w w':=by
 have hz:(chk2 xs ys != 0) = false:=by rw [chk2_ok (chk_ok hb hN) (chk_ok hb' hN')]; rfl
 have hl:Lim w (some ⟨b,off,none⟩) xs:=Or.inr ⟨b,off,rfl,hc⟩
 have hl':Lim w (some ⟨b',off',none⟩) ys:=Or.inr ⟨b',off',rfl,hc'⟩
 have hxl:((xs.length:Int) == 0) = false:=by simp; intro h; simp [h] at hp
 have hyl:((ys.length:Int) == 0) = false:=by simp; intro h; simp [h] at hp'
 have HC:=hide hc
 have HC':=hide hc'
 clear hc hc'
 go_enter Tryz.func34,Tryz.ntmps34
 go_wp2_with fail
 refine (checkBoth_any _ _ cap cap' xs ys _ (by omega) (by omega) (((hl.alloc _).alloc _).alloc _) (((hl'.alloc _).alloc _).alloc _)).mono ?_
 rintro e w1 ⟨rfl,hb1⟩
 obtain ⟨hc1,hf1⟩:=bcell hb1
 have hs1:w.heap.size+1+1 < w1.heap.size:=by have:=hb1.size; simp at this; omega
 have hB:=hide (gr_trans (gr_trans (gr_trans (gr_alloc _ _) (gr_alloc _ _)) (gr_alloc _ _)) hb1)
 clear hb1
 go_wp2_with fail
 go_quiet (fail)
 by_cases hbig:xs.length+ys.length - 1≤16384
 ·go_wp2_with fail
  have hQ:w1.cell? ⟨w.heap.size+1+1,0,none⟩ = some (.slice none 0 0):=by rw [hc1 _ _ (by simp)]; simp [go_sem]
  have hF:w1.frozen? ⟨w.heap.size+1+1,0,none⟩ = false:=by rw [hf1 _ _ (by simp)]; simp [go_sem]
  have hX:∀ j,j < xs.length→(w1.drewN nq).cell? ⟨b,off+j,none⟩ = some (.int .u32 ((xs[j]?.getD 0:Nat):Int)):=fun j hj=>((unhide hB).cell (by exact hlt)).trans (unhide HC j hj)
  have hY:∀ j,j < ys.length→(w1.drewN nq).cell? ⟨b',off'+j,none⟩ = some (.int .u32 ((ys[j]?.getD 0:Nat):Int)):=fun j hj=>((unhide hB).cell (by exact hlt')).trans (unhide HC' j hj)
  have hsw:w.heap.size≤w1.heap.size:=(unhide hB).size
  refine (multiply_any b off cap b' off' cap' xs ys (w1.drewN nq) hp hb hb' hw hw' (by exact Nat.lt_of_lt_of_le hlt hsw) (by exact Nat.lt_of_lt_of_le hlt' hsw) hX hY).mono ?_
  rintro e w2 ⟨zs,rfl,hzl,wz,hzv,hrz,hb2⟩
  have HV:=hide hzv
  clear hzv hX hY
  go_wp2_with fail
  refine (limited_at _ w1.heap.size _ _ zs w2 hzl hrz (Nat.le_refl _) (Nat.le_refl _) (by omega) wz).mono ?_
  rintro e w3 ⟨hans,hb3⟩
  have hB3:=gr_trans hb2 hb3
  have hq:w3.cell? ⟨w.heap.size+1+1,0,none⟩ = some (.slice none 0 0):=(hB3.cell (p:=⟨w.heap.size+1+1,0,none⟩) hs1).trans hQ
  have hf:w3.frozen? ⟨w.heap.size+1+1,0,none⟩ = false:=(hB3.frozen (p:=⟨w.heap.size+1+1,0,none⟩) hs1).trans hF
  have hBB:=hide (gr_trans (below_drewN (unhide hB) nq) hB3)
  rw [unhide HV] at hans
  clear hb2 hb3 hB3 hrz hzl wz hc1 hf1
  rcases hans with ⟨a3,n3,cap3,rfl,hm⟩|⟨rfl,hm⟩
  ·have HM:=hide hm
   clear hm
   go_wp2
   exact bodyPost_ret (v:=.tuple #[.agg #[.slice a3 n3 cap3],.int .i64 0]) (by simp [results,Tryz.results34,go_sem,hq]) rfl ⟨Or.inl ⟨_,_,_,rfl,((unhide HM).set hs1 _).mono hsw⟩,(unhide hBB).setCell (by simp; omega) _⟩
  ·have HM:=hide hm
   clear hm
   go_wp2
   exact bodyPost_ret (v:=.tuple #[.agg #[.slice none 0 0],.int .i64 4]) (by simp [results,Tryz.results34,go_sem,hq]) rfl ⟨Or.inr ⟨rfl,unhide HM⟩,(unhide hBB).setCell (by simp; omega) _⟩
 ·go_wp2
  exact bodyPost_ret (v:=.tuple #[.agg #[.slice none 0 0],.int .i64 4]) (by simp [results,Tryz.results34,go_sem,hc1]) rfl ⟨Or.inr ⟨rfl,pow_le_mul hN hN' hp hp' (by omega)⟩,(below_drewN (unhide hB) nq).setCell (by simp; omega) _⟩
theorem mul_any (a a':Option Addr) (n n' cap cap' m m':Nat) (w:World) (h:Num w a n m) (h':Num w a' n' m') :
  Calls Tryz.prog 34 #[.agg #[.slice a n cap],.agg #[.slice a' n' cap']] w fun e w'=>Ans w' w.heap.size e (m * m')∧Below w.heap.size w w':=by
 obtain ⟨xs,hn,hl,hw,hN,hv,hb⟩:=h
 obtain ⟨ys,hn',hl',hw',hN',hv',hb'⟩:=h'
 subst hn hn' hv hv'
 rcases hl.parts with hx|⟨hp,b,off,rfl,hlt,hc⟩
 ·exact mul_nil a a' cap cap' xs ys w hl hl' hN hN' hb hb' (Or.inl hx)
 ·rcases hl'.parts with hy|⟨hp',b',off',rfl,hlt',hc'⟩
  ·exact mul_nil _ a' cap cap' xs ys w hl hl' hN hN' hb hb' (Or.inr hy)
  ·exact mul_some b off b' off' cap cap' xs ys w hp hp' hlt hlt' hc hc' hw hw' hN hN' hb hb'
theorem num_one {w:World} {a:Option Addr} {m:Nat} (h:Num w a 1 m):0 < m∧m < 4294967296∧∃ b off,a = some ⟨b,off,none⟩∧b < w.heap.size∧w.cell? ⟨b,off,none⟩ = some (.int .u32 (m:Int)):=by
 have hz:=h.zero
 obtain ⟨xs,hn,hl,hw,hN,hv,hb⟩:=h
 match xs,hn with
 | [x],_=>
  have hx:x = m:=by rw [← hv]; simp [Pl.val]
  subst hx
  rcases hl.parts with hx|⟨hp,b,off,ha,hlt,hc⟩
  ·cases hx
  ·exact ⟨by omega,Pl.wf_head hw,b,off,ha,hlt,by have:=hc 0 (by simp); simpa using this⟩
def DivRes (w:World) (base:Nat) (e:Ending) (q r:Nat):Prop:=
 ∃ aq nq cq ar nr cr,e = .returned (.tuple #[.slice aq nq cq,.slice ar nr cr])∧Mine w base aq nq cq q∧Mine w base ar nr cr r
theorem mine_nil' (w:World) (base:Nat):Mine w base none 0 0 0:=⟨[],rfl,Or.inl ⟨rfl,rfl⟩,Pl.wf_nil,Pl.norm_nil,rfl,by omega⟩
theorem divide_lt (a a':Option Addr) (n n' cap cap' m m':Nat) (w:World) (h:Num w a n m) (h':Num w a' n' m') (hlt:m < m') :
  Calls Tryz.prog 102 #[.slice a n cap,.slice a' n' cap'] w fun e w'=>DivRes w' w.heap.size e (m / m') (m % m')∧Below w.heap.size w w':=by
 rw [Nat.div_eq_of_lt hlt,Nat.mod_eq_of_lt hlt]
 have hcm:=cmpI_lt hlt
 clear hlt
 go_enter Tryz.func102,Tryz.ntmps102
 go_wp2_with fail
 refine (compare_any a a' n n' cap cap' m m' w h h').mono ?_
 rintro e w1 ⟨rfl,hb1⟩
 rw [hcm]
 have h1:=h.kept hb1
 go_wp2_with fail
 refine (clone_any a n cap m w1 h1).mono ?_
 rintro e w2 ⟨⟨a2,c2,rfl,hm2⟩,hb2⟩
 have HM:=hide (hm2.mono hb1.size)
 clear hm2
 go_wp2
 go_ret2
 exact ⟨⟨none,0,0,a2,n,c2,rfl,mine_nil' _ _,unhide HM⟩,gr_trans hb1 hb2⟩
theorem heap_alloc_lc (w:World) (x:Nat):Row (w.alloc (.cells #[.int .u32 (x:Int)] 74)) w.heap.size [x]:=by
 refine ⟨#[],?_⟩
 rw [heap_alloc_new]
 simp [lc]
theorem divide_one (a:Option Addr) (b' off' n cap cap' m d:Nat) (w:World) (h:Num w a n m) (h':Num w (some ⟨b',off',none⟩) 1 d) (hge:d≤m) (hd0:0 < d) (hd:d < 4294967296) (hlt:b' < w.heap.size) (hc:w.cell? ⟨b',off',none⟩ = some (.int .u32 (d:Int))) :
  Calls Tryz.prog 102 #[.slice a n cap,.slice (some ⟨b',off',none⟩) 1 cap'] w fun e w'=>DivRes w' w.heap.size e (m / d) (m % d)∧Below w.heap.size w w':=by
 have hnn:¬ cmpI m d < 0:=by
  by_cases e:m = d
  ·rw [e,cmpI_eq]; decide
  ·rw [cmpI_gt (by omega)]; decide
 have hnd:decide (cmpI m d < 0) = false:=by simpa using hnn
 clear hnn
 have hN:=h
 obtain ⟨xs,hn,hl,hw,hNn,hv,hb⟩:=h
 rcases hl.parts with hx|⟨hp,b,off,rfl,hltb,hcx⟩
 ·have:m = 0:=by rw [← hv,hx]; rfl
  omega
 ·have HX:Hid (xs.length = n):=hn
  have HV:Hid (Pl.val xs = m):=hv
  have hcx':∀ j,j < n→w.cell? ⟨b,off+j,none⟩ = some (.int .u32 ((xs[j]?.getD 0:Nat):Int)):=fun j hj=>hcx j (by omega)
  have HCX:=hide hcx'
  clear hn hv hcx hcx' hp
  go_enter Tryz.func102,Tryz.ntmps102
  go_wp2_with fail
  refine (compare_any _ _ n 1 cap cap' m d w hN h').mono ?_
  rintro e w1 ⟨rfl,hb1⟩
  have hc1:w1.cell? ⟨b',off',none⟩ = some (.int .u32 (d:Int)):=(hb1.cell (by exact hlt)).trans hc
  have hs1:=hb1.size
  clear hN h'
  go_wp2_with fail
  refine (divideByLimb_any b off cap d n xs w1 HX hb hd0 hd hw (by omega) (fun j hj=>(hb1.cell (by exact hltb)).trans (unhide HCX j hj))).mono ?_
  rintro e w2 ⟨k,qs,rfl,hk,hql,hO,hqw,hqN,hqv,hb2⟩
  rw [unhide HV] at hqv ⊢
  obtain ⟨r,hr⟩:∃ r,r = m % d:=⟨_,rfl⟩
  have hrd:r < d:=by rw [hr]; exact Nat.mod_lt _ hd0
  rw [← hr]
  have HR:=hide hr
  have HM:=hide (show Mine w2 w1.heap.size (some ⟨w1.heap.size,0,none⟩) k k (m / d) from ⟨qs,hql,hO,hqw,hqN,hqv,by omega⟩)
  clear hr hO hqv
  go_wp2_with fail
  have hrow:=heap_alloc_lc w2 r
  refine (trim_at w2.heap.size 0 1 1 [r] _ rfl (Nat.le_refl _) (by omega) (fun j hj=>by rw [Nat.zero_add]; exact hrow.cell j hj)).mono ?_
  rintro e w3 ⟨rfl,l,hl1,h0,h1,rfl⟩
  have hl2:l≤1:=hl1
  have HT:=hide (trim_row hrow (Nat.le_refl _) (by simp) (Pl.wf_one (by omega)) hl1 h0 h1)
  clear h0 h1 hl1 hrow
  go_wp2
  go_ret2
  obtain ⟨t1,t2,t3,t4,t5⟩:=unhide HT
  refine ⟨⟨_,k,k,_,l,l,rfl,((unhide HM).mono hs1).alloc _,[r].take l,t1,t2.mono (Nat.le_trans hs1 hb2.size),t3,t4,by rw [t5,Pl.val_one]; exact unhide HR,by omega⟩,gr_trans (gr_trans hb1 hb2) (gr_alloc _ _)⟩
theorem divide_short (a a':Option Addr) (n cap cap' m d:Nat) (w:World) (h:Num w a n m) (h':Num w a' 1 d) :
  Calls Tryz.prog 102 #[.slice a n cap,.slice a' 1 cap'] w fun e w'=>DivRes w' w.heap.size e (m / d) (m % d)∧Below w.heap.size w w':=by
 by_cases hlt:m < d
 ·exact divide_lt a a' n 1 cap cap' m d w h h' hlt
 ·obtain ⟨h1,h2,b,off,rfl,h3,h4⟩:=num_one h'
  exact divide_one a b off n cap cap' m d w h h' (by omega) h1 h2 h3 h4
def DivAns (w:World) (base:Nat) (e:Ending) (m d:Nat):Prop:=
 (d = 0∧e = .returned (.tuple #[.agg #[.slice none 0 0],.agg #[.slice none 0 0],.int .i64 11])) ∨
 (0 < d∧∃ aq nq cq ar nr cr,e = .returned (.tuple #[.agg #[.slice aq nq cq],.agg #[.slice ar nr cr],.int .i64 0])∧Mine w base aq nq cq (m / d)∧Mine w base ar nr cr (m % d))
theorem div_zero (a a':Option Addr) (n cap cap' m:Nat) (w:World) (h:Num w a n m) :
  Calls Tryz.prog 75 #[.agg #[.slice a n cap],.agg #[.slice a' 0 cap']] w fun e w'=>DivAns w' w.heap.size e m 0∧Below w.heap.size w w':=by
 obtain ⟨xs,hn,hl,hw,hN,hv,hb⟩:=h
 have hck:=fun (o1 o2 o3 o4:Obj)=>checkBoth_any a a' cap cap' xs [] ((((w.alloc o1).alloc o2).alloc o3).alloc o4) (by omega) (by simp) ((((hl.alloc _).alloc _).alloc _).alloc _) (Or.inl rfl)
 rw [hn,chk2_ok (chk_ok (by omega) hN) (chk_ok (by simp) Pl.norm_nil)] at hck
 have HK:=hide hck
 clear hck hl
 go_enter Tryz.func75,Tryz.ntmps75
 go_wp2_with fail
 refine (unhide HK _ _ _ _).mono ?_
 rintro e w1 ⟨rfl,hb1⟩
 obtain ⟨hc1,hf1⟩:=bcell hb1
 have hB:=hide (gr_trans (gr_trans (gr_trans (gr_trans (gr_alloc _ _) (gr_alloc _ _)) (gr_alloc _ _)) (gr_alloc _ _)) hb1)
 clear hb1 HK
 go_wp2
 exact bodyPost_ret (v:=.tuple #[.agg #[.slice none 0 0],.agg #[.slice none 0 0],.int .i64 11]) (by simp [results,Tryz.results75,go_sem,hc1]) rfl ⟨Or.inl ⟨rfl,rfl⟩,((unhide hB).setCell (p:=⟨w.heap.size+1+1,0,none⟩) (by simp; omega) _).setCell (by simp; omega) _⟩
theorem div_of (a a':Option Addr) (n n' cap cap' m d:Nat) (w:World) (h:Num w a n m) (h':Num w a' n' d) (hd:0 < d)
  (hdiv:Hid (∀ w1,Num w1 a n m→Num w1 a' n' d→Calls Tryz.prog 102 #[.slice a n cap,.slice a' n' cap'] w1 fun e w'=>DivRes w' w1.heap.size e (m / d) (m % d)∧Below w1.heap.size w1 w')) :
  Calls Tryz.prog 75 #[.agg #[.slice a n cap],.agg #[.slice a' n' cap']] w fun e w'=>DivAns w' w.heap.size e m d∧Below w.heap.size w w':=by
 have hz:=h'.zero
 have hn0:((n':Int) == 0) = false:=by simp; omega
 have H:=hide h
 have H':=hide h'
 obtain ⟨xs,hn,hl,hw,hN,hv,hb⟩:=h
 obtain ⟨ys,hn',hl',hw',hN',hv',hb'⟩:=h'
 have hck:=fun (o1 o2 o3 o4:Obj)=>checkBoth_any a a' cap cap' xs ys ((((w.alloc o1).alloc o2).alloc o3).alloc o4) (by omega) (by omega) ((((hl.alloc _).alloc _).alloc _).alloc _) ((((hl'.alloc _).alloc _).alloc _).alloc _)
 rw [hn,hn',chk2_ok (chk_ok (by omega) hN) (chk_ok (by omega) hN')] at hck
 have HK:=hide hck
 clear hck hl hl' hz hn hn' hv hv'
 go_enter Tryz.func75,Tryz.ntmps75
 go_wp2_with fail
 refine (unhide HK _ _ _ _).mono ?_
 rintro e w1 ⟨rfl,hb1⟩
 obtain ⟨hc1,hf1⟩:=bcell hb1
 have hB:=hide (gr_trans (gr_trans (gr_trans (gr_trans (gr_alloc w (.cells #[.slice a n cap] 42)) (gr_alloc _ (.cells #[.slice a' n' cap'] 42))) (gr_alloc _ (.cells #[.slice none 0 0] 42))) (gr_alloc _ (.cells #[.slice none 0 0] 42))) hb1)
 have hbx:=((Box.made ((w.alloc (.cells #[.slice a n cap] 42)).alloc (.cells #[.slice a' n' cap'] 42)) (.slice none 0 0)).alloc (.cells #[.slice none 0 0] 42)).kept hb1
 have hby:=(Box.made (((w.alloc (.cells #[.slice a n cap] 42)).alloc (.cells #[.slice a' n' cap'] 42)).alloc (.cells #[.slice none 0 0] 42)) (.slice none 0 0)).kept hb1
 simp only [World.size_alloc] at hbx hby
 have HBX:=hide hbx
 have HBY:=hide hby
 clear hb1 HK hbx hby
 go_wp2_with fail
 refine (unhide hdiv w1 ((unhide H).kept (unhide hB)) ((unhide H').kept (unhide hB))).mono ?_
 rintro e w2 ⟨⟨aq,nq,cq,ar,nr,cr,rfl,hq,hr⟩,hb2⟩
 have hbx2:=(unhide HBX).kept hb2
 have hby2:=(unhide HBY).kept hb2
 have hcx:=hbx2.cell
 have hfx:=hbx2.frozen
 have hcy:=hby2.cell
 have hfy:=hby2.frozen
 have hby3:=hby2.other (a:=⟨w.heap.size+1+1,0,none⟩) (show w.heap.size+1+1+1≠w.heap.size+1+1 by omega) (.slice aq nq cq)
 have hsz:=(unhide hB).size
 have HQ:=hide (((hq.mono hsz).setBox hbx2 (.slice aq nq cq)).setBox hby3 (.slice ar nr cr))
 have HR:=hide (((hr.mono hsz).setBox hbx2 (.slice aq nq cq)).setBox hby3 (.slice ar nr cr))
 have HB2:=hide (gr_trans (unhide hB) hb2)
 clear hq hr hb2 hbx2 hby2 hby3 hc1 hf1
 go_wp2
 exact bodyPost_ret (v:=.tuple #[.agg #[.slice aq nq cq],.agg #[.slice ar nr cr],.int .i64 0]) (by simp [results,Tryz.results75,go_sem,hcx,hcy]) rfl ⟨Or.inr ⟨hd,_,_,_,_,_,_,rfl,unhide HQ,unhide HR⟩,((unhide HB2).setCell (p:=⟨w.heap.size+1+1,0,none⟩) (by simp; omega) _).setCell (by simp; omega) _⟩
end Go.Proofs.YtplihgoapiiigaaGreatDoor
