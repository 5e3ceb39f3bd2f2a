/- Of what SoftFmasRow stands on: Mul Compare Same Guess GcdWords LehMath Foretell Take Div QMath Sub CmpN. -/
import Derived.Test.YtfimakkpdjppfaaGreatDoorPaf
import Derived.BigQuiet
import Derived.Test.YtfimakkpdjppfaaGreatDoorPae
namespace Go.Proofs.YtfimakkpdjppfaaGreatDoor
open Go.RowKit
set_option maxHeartbeats 1000000
theorem pow_le_mul {xs ys:List Nat} (hx:Pl.Norm xs) (hy:Pl.Norm ys) (px:0 < xs.length) (py:0 < ys.length) (h:16384 < xs.length+ys.length - 1):Over (Pl.val xs * Pl.val ys):=by
 have h1:=Pl.norm_lower hx px
 have h2:=Pl.norm_lower hy py
 have h3:=Nat.mul_le_mul h1 h2
 rw [← Nat.pow_add] at h3
 exact ⟨Nat.le_trans (Pl.pow_le (by rw [Pl.top_eq]; omega)) h3⟩
theorem mine_nil (w:World) (base:Nat):Mine w base none 0 0 0:=⟨[],rfl,Or.inl ⟨rfl,rfl⟩,Pl.wf_nil,Pl.norm_nil,rfl,by omega⟩
theorem mul_nil (a a':Option Addr) (cap cap':Nat) (xs ys:List Nat) (w:World) (hl:Lim w a xs) (hl':Lim w a' ys) (hN:Pl.Norm xs) (hN':Pl.Norm ys) (hb:xs.length≤16384) (hb':ys.length≤16384) (h0:xs = []∨ys = []) :
  Calls Tryz.prog 163 #[.agg #[.slice a xs.length cap],.agg #[.slice a' ys.length cap']] w fun e w'=>Ans w' w.heap.size e (Pl.val xs * Pl.val ys)∧Below w.heap.size w w':=by
 have hz:(chk2 xs ys != 0) = false:=by rw [chk2_ok (chk_ok hb hN) (chk_ok hb' hN')]; rfl
 have hv:Pl.val xs * Pl.val ys = 0:=by rcases h0 with rfl|rfl <;> simp [Pl.val]
 rw [hv]
 clear hv
 by_cases hx:xs = []
 ·subst hx
  clear h0
  go_enter Tryz.func163,Tryz.ntmps163
  go_wp2_with fail
  refine (checkBoth_any a a' cap cap' [] ys _ (by simp) (by omega) (((hl.alloc _).alloc _).alloc _) (((hl'.alloc _).alloc _).alloc _)).mono ?_
  rintro e w1 ⟨rfl,hb1⟩
  obtain ⟨hc1,hf1⟩:=bcell hb1
  have hB:=hide (gr_trans (gr_trans (gr_trans (gr_alloc _ _) (gr_alloc _ _)) (gr_alloc _ _)) hb1)
  clear hb1
  go_wp2_with fail
  go_quiet (fail)
  go_wp2
  exact bodyPost_ret (v:=.tuple #[.agg #[.slice none 0 0],.int .i64 0]) (by simp [results,Tryz.results163,go_sem,hc1]) rfl ⟨Or.inl ⟨_,_,_,rfl,mine_nil _ _⟩,(below_drewN (unhide hB) nq).setCell (by simp; omega) _⟩
 ·have hy:ys = []:=h0.resolve_left hx
  subst hy
  have hxl:((xs.length:Int) == 0) = false:=by simpa using hx
  clear h0
  go_enter Tryz.func163,Tryz.ntmps163
  go_wp2_with fail
  refine (checkBoth_any a a' cap cap' xs [] _ (by omega) (by simp) (((hl.alloc _).alloc _).alloc _) (((hl'.alloc _).alloc _).alloc _)).mono ?_
  rintro e w1 ⟨rfl,hb1⟩
  obtain ⟨hc1,hf1⟩:=bcell hb1
  have hB:=hide (gr_trans (gr_trans (gr_trans (gr_alloc _ _) (gr_alloc _ _)) (gr_alloc _ _)) hb1)
  clear hb1
  go_wp2_with fail
  go_quiet (fail)
  go_wp2
  exact bodyPost_ret (v:=.tuple #[.agg #[.slice none 0 0],.int .i64 0]) (by simp [results,Tryz.results163,go_sem,hc1]) rfl ⟨Or.inl ⟨_,_,_,rfl,mine_nil _ _⟩,(below_drewN (unhide hB) nq).setCell (by simp; omega) _⟩
theorem mul_some (b off b' off' cap cap':Nat) (xs ys:List Nat) (w:World) (hp:0 < xs.length) (hp':0 < ys.length) (hlt:b < w.heap.size) (hlt':b' < w.heap.size)
  (hc:∀ j,j < xs.length→w.cell? ⟨b,off+j,none⟩ = some (.int .u32 ((xs[j]?.getD 0:Nat):Int)))
  (hc':∀ j,j < ys.length→w.cell? ⟨b',off'+j,none⟩ = some (.int .u32 ((ys[j]?.getD 0:Nat):Int)))
  (hw:Pl.Wf xs) (hw':Pl.Wf ys) (hN:Pl.Norm xs) (hN':Pl.Norm ys) (hb:xs.length≤16384) (hb':ys.length≤16384) :
  Calls Tryz.prog 163 #[.agg #[.slice (some ⟨b,off,none⟩) xs.length cap],.agg #[.slice (some ⟨b',off',none⟩) ys.length cap']] w fun e w'=>Ans w' w.heap.size e (Pl.val xs * Pl.val ys)∧Below w.heap.size w w':=by
 have hz:(chk2 xs ys != 0) = false:=by rw [chk2_ok (chk_ok hb hN) (chk_ok hb' hN')]; rfl
 have hl:Lim w (some ⟨b,off,none⟩) xs:=Or.inr ⟨b,off,rfl,hc⟩
 have hl':Lim w (some ⟨b',off',none⟩) ys:=Or.inr ⟨b',off',rfl,hc'⟩
 have hxl:((xs.length:Int) == 0) = false:=by simp; intro h; simp [h] at hp
 have hyl:((ys.length:Int) == 0) = false:=by simp; intro h; simp [h] at hp'
 have HC:=hide hc
 have HC':=hide hc'
 clear hc hc'
 go_enter Tryz.func163,Tryz.ntmps163
 go_wp2_with fail
 refine (checkBoth_any _ _ cap cap' xs ys _ (by omega) (by omega) (((hl.alloc _).alloc _).alloc _) (((hl'.alloc _).alloc _).alloc _)).mono ?_
 rintro e w1 ⟨rfl,hb1⟩
 obtain ⟨hc1,hf1⟩:=bcell hb1
 have hs1:w.heap.size+1+1 < w1.heap.size:=by have:=hb1.size; simp at this; omega
 have hB:=hide (gr_trans (gr_trans (gr_trans (gr_alloc _ _) (gr_alloc _ _)) (gr_alloc _ _)) hb1)
 clear hb1
 go_wp2_with fail
 go_quiet (fail)
 by_cases hbig:xs.length+ys.length - 1≤16384
 ·go_wp2_with fail
  have hQ:w1.cell? ⟨w.heap.size+1+1,0,none⟩ = some (.slice none 0 0):=by rw [hc1 _ _ (by simp)]; simp [go_sem]
  have hF:w1.frozen? ⟨w.heap.size+1+1,0,none⟩ = false:=by rw [hf1 _ _ (by simp)]; simp [go_sem]
  have hX:∀ j,j < xs.length→(w1.drewN nq).cell? ⟨b,off+j,none⟩ = some (.int .u32 ((xs[j]?.getD 0:Nat):Int)):=fun j hj=>((unhide hB).cell (by exact hlt)).trans (unhide HC j hj)
  have hY:∀ j,j < ys.length→(w1.drewN nq).cell? ⟨b',off'+j,none⟩ = some (.int .u32 ((ys[j]?.getD 0:Nat):Int)):=fun j hj=>((unhide hB).cell (by exact hlt')).trans (unhide HC' j hj)
  have hsw:w.heap.size≤w1.heap.size:=(unhide hB).size
  refine (multiply_any b off cap b' off' cap' xs ys (w1.drewN nq) hp hb hb' hw hw' (by exact Nat.lt_of_lt_of_le hlt hsw) (by exact Nat.lt_of_lt_of_le hlt' hsw) hX hY).mono ?_
  rintro e w2 ⟨zs,rfl,hzl,wz,hzv,hrz,hb2⟩
  have HV:=hide hzv
  clear hzv hX hY
  go_wp2_with fail
  refine (limited_at _ w1.heap.size _ _ zs w2 hzl hrz (Nat.le_refl _) (Nat.le_refl _) (by omega) wz).mono ?_
  rintro e w3 ⟨hans,hb3⟩
  have hB3:=gr_trans hb2 hb3
  have hq:w3.cell? ⟨w.heap.size+1+1,0,none⟩ = some (.slice none 0 0):=(hB3.cell (p:=⟨w.heap.size+1+1,0,none⟩) hs1).trans hQ
  have hf:w3.frozen? ⟨w.heap.size+1+1,0,none⟩ = false:=(hB3.frozen (p:=⟨w.heap.size+1+1,0,none⟩) hs1).trans hF
  have hBB:=hide (gr_trans (below_drewN (unhide hB) nq) hB3)
  rw [unhide HV] at hans
  clear hb2 hb3 hB3 hrz hzl wz hc1 hf1
  rcases hans with ⟨a3,n3,cap3,rfl,hm⟩|⟨rfl,hm⟩
  ·have HM:=hide hm
   clear hm
   go_wp2
   exact bodyPost_ret (v:=.tuple #[.agg #[.slice a3 n3 cap3],.int .i64 0]) (by simp [results,Tryz.results163,go_sem,hq]) rfl ⟨Or.inl ⟨_,_,_,rfl,((unhide HM).set hs1 _).mono hsw⟩,(unhide hBB).setCell (by simp; omega) _⟩
  ·have HM:=hide hm
   clear hm
   go_wp2
   exact bodyPost_ret (v:=.tuple #[.agg #[.slice none 0 0],.int .i64 4]) (by simp [results,Tryz.results163,go_sem,hq]) rfl ⟨Or.inr ⟨rfl,unhide HM⟩,(unhide hBB).setCell (by simp; omega) _⟩
 ·go_wp2
  exact bodyPost_ret (v:=.tuple #[.agg #[.slice none 0 0],.int .i64 4]) (by simp [results,Tryz.results163,go_sem,hc1]) rfl ⟨Or.inr ⟨rfl,pow_le_mul hN hN' hp hp' (by omega)⟩,(below_drewN (unhide hB) nq).setCell (by simp; omega) _⟩
theorem mul_any (a a':Option Addr) (n n' cap cap' m m':Nat) (w:World) (h:Num w a n m) (h':Num w a' n' m') :
  Calls Tryz.prog 163 #[.agg #[.slice a n cap],.agg #[.slice a' n' cap']] w fun e w'=>Ans w' w.heap.size e (m * m')∧Below w.heap.size w w':=by
 obtain ⟨xs,hn,hl,hw,hN,hv,hb⟩:=h
 obtain ⟨ys,hn',hl',hw',hN',hv',hb'⟩:=h'
 subst hn hn' hv hv'
 rcases hl.parts with hx|⟨hp,b,off,rfl,hlt,hc⟩
 ·exact mul_nil a a' cap cap' xs ys w hl hl' hN hN' hb hb' (Or.inl hx)
 ·rcases hl'.parts with hy|⟨hp',b',off',rfl,hlt',hc'⟩
  ·exact mul_nil _ a' cap cap' xs ys w hl hl' hN hN' hb hb' (Or.inr hy)
  ·exact mul_some b off b' off' cap cap' xs ys w hp hp' hlt hlt' hc hc' hw hw' hN hN' hb hb'
def cmpI (m k:Nat):Int:=if m < k then -1 else if m = k then 0 else 1
theorem cmp_len {xs ys:List Nat} (hx:Pl.Wf xs) (hy:Pl.Norm ys) (h:xs.length < ys.length):Pl.val xs < Pl.val ys:=by
 have h1:=Pl.val_lt hx
 have h2:=Pl.norm_lower hy (by omega)
 have h3:=Pl.pow_le (show xs.length≤ys.length - 1 by omega)
 omega
theorem cmp_at {xs ys:List Nat} (hx:Pl.Wf xs) (k:Nat) (hl:xs.length = ys.length) (hk:k < xs.length) (hd:xs.drop (k+1) = ys.drop (k+1)) (h:xs[k]?.getD 0 < ys[k]?.getD 0):Pl.val xs < Pl.val ys:=by
 rw [Pl.val_split xs k (by omega),Pl.val_split ys k (by omega),Pl.drop_cons xs k hk,Pl.drop_cons ys k (by omega),hd]
 have h1:=Pl.val_lt (Pl.wf_take hx k)
 rw [List.length_take,Nat.min_eq_left (by omega)] at h1
 simp only [Pl.val]
 have h2:=Nat.mul_le_mul_left (4294967296 ^ k) (show xs[k]?.getD 0+4294967296 * Pl.val (ys.drop (k+1))+1≤ys[k]?.getD 0+4294967296 * Pl.val (ys.drop (k+1)) by omega)
 rw [Nat.mul_add,Nat.mul_one] at h2
 omega
theorem cmpI_lt {m k:Nat} (h:m < k):cmpI m k = -1:=by rw [cmpI,if_pos h]
theorem cmpI_gt {m k:Nat} (h:k < m):cmpI m k = 1:=by rw [cmpI,if_neg (by omega),if_neg (by omega)]
theorem cmpI_eq (m:Nat):cmpI m m = 0:=by rw [cmpI,if_neg (by omega),if_pos rfl]
theorem sign_any (b:Bool) (w:World):Calls Tryz.prog 192 #[.bool b] w fun e w'=>e = .returned (.int .i64 (if b then 1 else -1))∧w' = w:=by
 cases b
 all_goals
  go_enter Tryz.func192,Tryz.ntmps192
  go_wp2
  go_ret
  exact ⟨rfl,rfl⟩
theorem compare_some (b off b' off' cap cap' n:Nat) (xs ys:List Nat) (w:World) (hxn:Hid (xs.length = n)) (hyn:Hid (ys.length = n)) (hlt:b < w.heap.size) (hlt':b' < w.heap.size) (hx:Pl.Wf xs) (hy:Pl.Wf ys) (hbig:n≤16384)
  (hc:∀ j,j < n→w.cell? ⟨b,off+j,none⟩ = some (.int .u32 ((xs[j]?.getD 0:Nat):Int)))
  (hc':∀ j,j < n→w.cell? ⟨b',off'+j,none⟩ = some (.int .u32 ((ys[j]?.getD 0:Nat):Int))) :
  Calls Tryz.prog 182 #[.slice (some ⟨b,off,none⟩) n cap,.slice (some ⟨b',off',none⟩) n cap'] w
   fun e w'=>e = .returned (.int .i64 (cmpI (Pl.val xs) (Pl.val ys)))∧Below w.heap.size w w':=by
 go_enter Tryz.func182,Tryz.ntmps182
 go_wp2
 go_loopw [5] (fun t wr=>∃ k:Nat,k≤n∧t = .int .i64 ((k:Int) - 1)∧xs.drop k = ys.drop k∧Below w.heap.size w wr) (fun t _=>(intOf t+1).toNat)
 case atStart=>exact ⟨n,Nat.le_refl _,rfl,by rw [List.drop_eq_nil_of_le (by rw [unhide hxn]; omega),List.drop_eq_nil_of_le (by rw [unhide hyn]; omega)],gr_refl _⟩
 case round=>
  obtain ⟨k,hk,rfl,hd,hbel⟩:=hrel
  by_cases hk0:k = 0
  ·subst hk0
   go_wp2
   go_ret
   rw [List.drop_zero,List.drop_zero] at hd
   exact ⟨ret_int (by rw [hd,cmpI_eq]),hbel⟩
  ·obtain ⟨j,rfl⟩:∃ j,k = j+1:=⟨k - 1,by omega⟩
   obtain ⟨x,hxx⟩:∃ x,x = xs[j]?.getD 0:=⟨_,rfl⟩
   obtain ⟨y,hyy⟩:∃ y,y = ys[j]?.getD 0:=⟨_,rfl⟩
   have hcx:wr.cell? ⟨b,off+j,none⟩ = some (.int .u32 (x:Int)):=by rw [hxx]; exact (hbel.cell (by exact hlt)).trans (hc j (by omega))
   have hcy:wr.cell? ⟨b',off'+j,none⟩ = some (.int .u32 (y:Int)):=by rw [hyy]; exact (hbel.cell (by exact hlt')).trans (hc' j (by omega))
   have HX:=hide hxx
   have HY:=hide hyy
   have HD:=hide hd
   have hxl:=unhide hxn
   have hyl:=unhide hyn
   have hj1:(0:Int)≤(j:Int):=by omega
   have hj2:(j:Int) < (n:Int):=by omega
   have HL:Hid (x = y→xs.drop j = ys.drop j):=fun e=>by
    rw [Pl.drop_cons xs j (by omega),Pl.drop_cons ys j (by omega),hd,← hxx,← hyy,e]
   have HLT:Hid (x < y→Pl.val xs < Pl.val ys):=fun e=>cmp_at hx j (by omega) (by omega) hd (by rw [← hxx,← hyy]; exact e)
   have HGT:Hid (y < x→Pl.val ys < Pl.val xs):=fun e=>cmp_at hy j (by omega) (by omega) hd.symm (by rw [← hxx,← hyy]; exact e)
   clear hxx hyy hd hxl hyl hc hc'
   go_wp2_with fail
   go_quiet (fail)
   have hbq:=below_drewN hbel nq
   have hcx2:(wr.drewN nq).cell? ⟨b,off+j,none⟩ = some (.int .u32 (x:Int)):=hcx
   have hcy2:(wr.drewN nq).cell? ⟨b',off'+j,none⟩ = some (.int .u32 (y:Int)):=hcy
   clear hcx hcy
   generalize wr.drewN nq = wq at *
   by_cases he:x = y
   ·have hne:((x:Int) != (y:Int)) = false:=by simp [he]
    have HE:=hide he
    clear he
    go_wp2
    go_roundw
    case rel=>exact ⟨j,by omega,by go_num,unhide HL (unhide HE),hbq⟩
    case measure=>simp [intOf]
   ·have hne:((x:Int) != (y:Int)) = true:=by simp; omega
    by_cases hlt2:x < y
    ·have hf:decide (y < x) = false:=by simp; omega
     clear he
     go_wp2_with fail
     go_quiet ((go_at_call 192; exact Calls.quiet_of_same (sign_any _ _)))
     go_wp2
     go_ret
     exact ⟨ret_int (by rw [cmpI_lt (unhide HLT hlt2)]),below_drewN hbq _⟩
    ·have hf:decide (y < x) = true:=by simp; omega
     have hgt:y < x:=by omega
     clear he
     go_wp2_with fail
     go_quiet ((go_at_call 192; exact Calls.quiet_of_same (sign_any _ _)))
     go_wp2
     go_ret
     exact ⟨ret_int (by rw [cmpI_gt (unhide HGT hgt)]),below_drewN hbq _⟩
theorem compare_any (a a':Option Addr) (n n' cap cap' m m':Nat) (w:World) (h:Num w a n m) (h':Num w a' n' m') :
  Calls Tryz.prog 182 #[.slice a n cap,.slice a' n' cap'] w fun e w'=>e = .returned (.int .i64 (cmpI m m'))∧Below w.heap.size w w':=by
 obtain ⟨xs,hn,hl,hw,hN,hv,hb⟩:=h
 obtain ⟨ys,hn',hl',hw',hN',hv',hb'⟩:=h'
 by_cases he:n = n'
 ·subst he
  rcases hl.parts with hx|⟨hp,b,off,rfl,hlt,hc⟩
  ·have hn0:n = 0:=by rw [← hn,hx]; rfl
   have hy:ys = []:=List.length_eq_zero_iff.1 (by omega)
   have hm:m = m':=by rw [← hv,← hv',hx,hy]
   subst hm hn0
   clear hn hn' hv hv'
   go_enter Tryz.func182,Tryz.ntmps182
   go_wp2
   refine wp_loop_rounds 1 ?_
   rw [rounds_succ]
   go_wp2
   go_ret
   exact ⟨ret_int (by rw [cmpI_eq]),gr_refl _⟩
  ·rcases hl'.parts with hy|⟨hp',b',off',rfl,hlt',hc'⟩
   ·rw [hy] at hn'; simp at hn'; omega
   ·rw [← hv,← hv']
    exact compare_some b off b' off' cap cap' n xs ys w (hide hn) (hide hn') hlt hlt' hw hw' hb (fun j hj=>hc j (by omega)) (fun j hj=>hc' j (by omega))
 ·have hne:((n:Int) != (n':Int)) = true:=by simp; omega
  by_cases hlt:n < n'
  ·have hc:=cmpI_lt (cmp_len hw hN' (show xs.length < ys.length by omega))
   rw [hv,hv'] at hc
   have HC:=hide hc
   have hf:decide (n' < n) = false:=by simp; omega
   clear hc he hn hn' hv hv'
   go_enter Tryz.func182,Tryz.ntmps182
   go_wp2_with fail
   refine (sign_any _ _).mono ?_
   rintro e w1 ⟨rfl,rfl⟩
   go_wp2
   go_ret
   exact ⟨ret_int (by rw [unhide HC]),gr_refl _⟩
  ·have hc:=cmpI_gt (cmp_len hw' hN (show ys.length < xs.length by omega))
   rw [hv,hv'] at hc
   have HC:=hide hc
   have hf:decide (n' < n) = true:=by simp; omega
   clear hc he hn hn' hv hv'
   go_enter Tryz.func182,Tryz.ntmps182
   go_wp2_with fail
   refine (sign_any _ _).mono ?_
   rintro e w1 ⟨rfl,rfl⟩
   go_wp2
   go_ret
   exact ⟨ret_int (by rw [unhide HC]),gr_refl _⟩
theorem rcmp_some (b off b' off' cap cap' n:Nat) (xs ys:List Nat) (w:World) (hxn:Hid (xs.length = n)) (hyn:Hid (ys.length = n)) (hlt:b < w.heap.size) (hlt':b' < w.heap.size) (hx:Pl.Wf xs) (hy:Pl.Wf ys) (hbig:n≤16384)
  (hc:∀ j,j < n→w.cell? ⟨b,off+j,none⟩ = some (.int .u32 ((xs[j]?.getD 0:Nat):Int)))
  (hc':∀ j,j < n→w.cell? ⟨b',off'+j,none⟩ = some (.int .u32 ((ys[j]?.getD 0:Nat):Int))) :
  Calls Tryz.prog 66 #[.slice (some ⟨b,off,none⟩) n cap,.slice (some ⟨b',off',none⟩) n cap'] w
   fun e w'=>e = .returned (.int .i64 (cmpI (Pl.val xs) (Pl.val ys)))∧Below w.heap.size w w':=by
 go_enter Tryz.func66,Tryz.ntmps66
 go_wp2
 go_loopw [5] (fun t wr=>∃ k:Nat,k≤n∧t = .int .i64 ((k:Int) - 1)∧xs.drop k = ys.drop k∧Below w.heap.size w wr) (fun t _=>(intOf t+1).toNat)
 case atStart=>exact ⟨n,Nat.le_refl _,rfl,by rw [List.drop_eq_nil_of_le (by rw [unhide hxn]; omega),List.drop_eq_nil_of_le (by rw [unhide hyn]; omega)],gr_refl _⟩
 case round=>
  obtain ⟨k,hk,rfl,hd,hbel⟩:=hrel
  by_cases hk0:k = 0
  ·subst hk0
   go_wp2
   go_ret
   rw [List.drop_zero,List.drop_zero] at hd
   exact ⟨ret_int (by rw [hd,cmpI_eq]),hbel⟩
  ·obtain ⟨j,rfl⟩:∃ j,k = j+1:=⟨k - 1,by omega⟩
   obtain ⟨x,hxx⟩:∃ x,x = xs[j]?.getD 0:=⟨_,rfl⟩
   obtain ⟨y,hyy⟩:∃ y,y = ys[j]?.getD 0:=⟨_,rfl⟩
   have hcx:wr.cell? ⟨b,off+j,none⟩ = some (.int .u32 (x:Int)):=by rw [hxx]; exact (hbel.cell (by exact hlt)).trans (hc j (by omega))
   have hcy:wr.cell? ⟨b',off'+j,none⟩ = some (.int .u32 (y:Int)):=by rw [hyy]; exact (hbel.cell (by exact hlt')).trans (hc' j (by omega))
   have hxl:=unhide hxn
   have hyl:=unhide hyn
   have hj1:(0:Int)≤(j:Int):=by omega
   have hj2:(j:Int) < (n:Int):=by omega
   have HL:Hid (x = y→xs.drop j = ys.drop j):=fun e=>by
    rw [Pl.drop_cons xs j (by omega),Pl.drop_cons ys j (by omega),hd,← hxx,← hyy,e]
   have HLT:Hid (x < y→Pl.val xs < Pl.val ys):=fun e=>cmp_at hx j (by omega) (by omega) hd (by rw [← hxx,← hyy]; exact e)
   have HGT:Hid (y < x→Pl.val ys < Pl.val xs):=fun e=>cmp_at hy j (by omega) (by omega) hd.symm (by rw [← hxx,← hyy]; exact e)
   clear hxx hyy hd hxl hyl hc hc'
   go_wp2_with fail
   go_quiet (fail)
   have hbq:=below_drewN hbel nq
   have hcx2:(wr.drewN nq).cell? ⟨b,off+j,none⟩ = some (.int .u32 (x:Int)):=hcx
   have hcy2:(wr.drewN nq).cell? ⟨b',off'+j,none⟩ = some (.int .u32 (y:Int)):=hcy
   clear hcx hcy
   generalize wr.drewN nq = wq at *
   by_cases hlt2:x < y
   ·have hf:decide (x < y) = true:=by simp; omega
    go_wp2
    go_ret
    exact ⟨ret_int (by rw [cmpI_lt (unhide HLT hlt2)]),hbq⟩
   ·have hf:decide (x < y) = false:=by simp; omega
    go_wp2_with fail
    go_quiet (fail)
    by_cases hgt:y < x
    ·have hf2:decide (y < x) = true:=by simp; omega
     go_wp2
     go_ret
     exact ⟨ret_int (by rw [cmpI_gt (unhide HGT hgt)]),below_drewN hbq _⟩
    ·have hf2:decide (y < x) = false:=by simp; omega
     have he:x = y:=by omega
     have HE:=hide he
     clear he
     go_wp2
     go_roundw
     case rel=>exact ⟨j,by omega,by go_num,unhide HL (unhide HE),below_drewN hbq _⟩
     case measure=>simp [intOf]
theorem rcmp_any (a a':Option Addr) (n cap cap' m m':Nat) (w:World) (h:Num w a n m) (h':Num w a' n m') :
  Calls Tryz.prog 66 #[.slice a n cap,.slice a' n cap'] w fun e w'=>e = .returned (.int .i64 (cmpI m m'))∧Below w.heap.size w w':=by
 obtain ⟨xs,hn,hl,hw,hN,hv,hb⟩:=h
 obtain ⟨ys,hn',hl',hw',hN',hv',hb'⟩:=h'
 rcases hl.parts with hx|⟨hp,b,off,rfl,hlt,hc⟩
 ·have hn0:n = 0:=by rw [← hn,hx]; rfl
  have hy:ys = []:=List.length_eq_zero_iff.1 (by omega)
  have hm:m = m':=by rw [← hv,← hv',hx,hy]
  subst hm hn0
  clear hn hn' hv hv'
  go_enter Tryz.func66,Tryz.ntmps66
  go_wp2
  refine wp_loop_rounds 1 ?_
  rw [rounds_succ]
  go_wp2
  go_ret
  exact ⟨ret_int (by rw [cmpI_eq]),gr_refl _⟩
 ·rcases hl'.parts with hy|⟨hp',b',off',rfl,hlt',hc'⟩
  ·rw [hy] at hn'; simp at hn'; omega
  ·rw [← hv,← hv']
   exact rcmp_some b off b' off' cap cap' n xs ys w (hide hn) (hide hn') hlt hlt' hw hw' hb (fun j hj=>hc j (by omega)) (fun j hj=>hc' j (by omega))
theorem Only.all {w w':World} (h:∀ B,Only B w w') {p:Addr}:w'.cell? p = w.cell? p:=(h (p.block+1)).cell (by omega)
theorem Only.drewN {B:Nat} {w w':World} (h:Only B w w') (n:Nat):Only B w (w'.drewN n):=⟨h.os,h.tape,h.output,h.size,h.block⟩
theorem gcd_next (x y:Nat):Nat.gcd y (x % y) = Nat.gcd x y:=by
 rw [Nat.gcd_comm x y,Nat.gcd_rec y x,Nat.gcd_comm]
structure Inv1 (x0 y0 A B C D x y:Int):Prop where
 a0:0≤A
 b0:B≤0
 c0:C≤0
 d0:0≤D
 hx:x = A * x0+B * y0
 hy:y = C * x0+D * y0
 det:A * D - B * C = 1
 xb:0≤x+B
 yc:0≤y+C
theorem Inv1.start (x0 y0:Int) (h:0≤x0) (k:0≤y0):Inv1 x0 y0 1 0 0 1 x0 y0:=⟨by omega,by omega,by omega,by omega,by omega,by omega,by omega,by omega,by omega⟩
theorem Inv1.step {x0 y0 A B C D x y q:Int} (h:Inv1 x0 y0 A B C D x y) (hq:0≤q) (hq2:q * (y+D)≤x+B):Inv1 y0 x0 D C (B - q * D) (A - q * C) y (x - q * y):=by
 have u:q * C≤0:=Int.mul_nonpos_of_nonneg_of_nonpos hq h.c0
 have v:0≤q * D:=Int.mul_nonneg hq h.d0
 refine ⟨h.d0,h.c0,?_,?_,?_,?_,?_,h.yc,?_⟩
 ·have:=h.b0; omega
 ·have:=h.a0; omega
 ·rw [h.hy]; omega
 ·rw [h.hx,h.hy,Int.sub_mul,Int.sub_mul,Int.mul_add,Int.mul_assoc,Int.mul_assoc]; omega
 ·have:=h.det
  rw [Int.mul_sub,Int.mul_sub,Int.mul_left_comm D q C,Int.mul_left_comm C q D,Int.mul_comm D C,Int.mul_comm D A,Int.mul_comm C B]
  omega
 ·rw [Int.mul_add] at hq2
  omega
theorem true_step {A B C D x y H xl yl q:Int} (a0:0≤A) (b0:B≤0) (c0:C≤0) (d0:0≤D) (hq:0≤q) (hH:0 < H) (hxl:0≤xl) (hxl2:xl≤H) (hyl:0≤yl) (hyl2:yl≤H)
  (h1:x+A < (q+1) * (y+C)) (h2:q * (y+D)≤x+B) :
  0≤(x * H+A * xl+B * yl) - q * (y * H+C * xl+D * yl)∧(x * H+A * xl+B * yl) - q * (y * H+C * xl+D * yl) < y * H+C * xl+D * yl:=by
 have u0:q * C≤0:=Int.mul_nonpos_of_nonneg_of_nonpos hq c0
 have v0:0≤q * D:=Int.mul_nonneg hq d0
 have e:q * (y * H+C * xl+D * yl) = q * y * H+q * C * xl+q * D * yl:=by
  rw [Int.mul_add,Int.mul_add,Int.mul_assoc,Int.mul_assoc,Int.mul_assoc]
 rw [e]
 rw [Int.add_mul,Int.mul_add,Int.one_mul] at h1
 rw [Int.mul_add] at h2
 generalize q * C = u at *
 generalize q * D = v at *
 generalize q * y = z at *
 constructor
 ·have p1:0≤(A - u) * xl:=Int.mul_nonneg (by omega) hxl
  have p2:0≤(v - B) * (H - yl):=Int.mul_nonneg (by omega) (by omega)
  have p3:0≤(x - z+B - v) * H:=Int.mul_nonneg (by omega) (by omega)
  rw [Int.sub_mul] at p1
  rw [Int.sub_mul,Int.mul_sub,Int.mul_sub] at p2
  rw [Int.sub_mul,Int.add_mul,Int.sub_mul] at p3
  omega
 ·have p1:0≤(A - u - C) * (H - xl):=Int.mul_nonneg (by omega) (by omega)
  have p2:0≤(v+D - B) * yl:=Int.mul_nonneg (by omega) hyl
  have p3:0≤(z+u+y+C - x - A - 1) * H:=Int.mul_nonneg (by omega) (by omega)
  rw [Int.sub_mul,Int.sub_mul,Int.mul_sub,Int.mul_sub,Int.mul_sub] at p1
  rw [Int.sub_mul,Int.add_mul] at p2
  rw [Int.sub_mul,Int.sub_mul,Int.sub_mul,Int.add_mul,Int.add_mul,Int.add_mul,Int.one_mul] at p3
  omega
theorem sq_bound {t x:Int} (h0:0≤t) (h1:t≤x) (h2:t * x < 4611686018427387904):t≤2147483647:=by
 by_cases h:t≤2147483647
 ·exact h
 ·have:2147483648 * 2147483648≤t * x:=Int.mul_le_mul (by omega) (by omega) (by omega) h0
  omega
theorem Inv1.small {x0 y0 A B C D x y:Int} (h:Inv1 x0 y0 A B C D x y) (hx0:x0 < 4611686018427387904) (hy0:y0 < 4611686018427387904) (hc:-C≤x) (hd:D≤x):-2147483647≤C∧D≤2147483647:=by
 have hxn:0≤x:=by have:=h.xb; have:=h.b0; omega
 have hyn:0≤y:=by have:=h.yc; have:=h.c0; omega
 have e1:x0 = D * x - B * y:=by
  rw [h.hx,h.hy,Int.mul_add,Int.mul_add,← Int.mul_assoc,← Int.mul_assoc,← Int.mul_assoc,← Int.mul_assoc,Int.mul_comm D A,Int.mul_comm D B]
  have:(A * D - B * C) * x0 = 1 * x0:=by rw [h.det]
  rw [Int.sub_mul] at this
  omega
 have e2:y0 = A * y - C * x:=by
  rw [h.hx,h.hy,Int.mul_add,Int.mul_add,← Int.mul_assoc,← Int.mul_assoc,← Int.mul_assoc,← Int.mul_assoc,Int.mul_comm C A,Int.mul_comm C B]
  have:(A * D - B * C) * y0 = 1 * y0:=by rw [h.det]
  rw [Int.sub_mul] at this
  omega
 have p1:0≤(-B) * y:=Int.mul_nonneg (by have:=h.b0; omega) hyn
 have p2:0≤A * y:=Int.mul_nonneg h.a0 hyn
 rw [Int.neg_mul] at p1
 have q1:D * x < 4611686018427387904:=by omega
 have q2:(-C) * x < 4611686018427387904:=by rw [Int.neg_mul]; omega
 have r1:=sq_bound h.d0 hd q1
 have r2:=sq_bound (by have:=h.c0; omega) hc q2
 omega
def Leh (x0 y0 A B C D x y:Int):Prop:=Inv1 x0 y0 A B C D x y∨Inv1 y0 x0 B A D C x y
theorem Leh.step {x0 y0 A B C D x y q:Int} (h:Leh x0 y0 A B C D x y) (hx0:x0 < 4611686018427387904) (hy0:y0 < 4611686018427387904) (hq:0≤q)
  (h1:q * (y+C)≤x+A) (h2:x+A < (q+1) * (y+C)) (h3:q * (y+D)≤x+B) (h4:x+B < (q+1) * (y+D)) :
  Leh x0 y0 C D (A - q * C) (B - q * D) y (x - q * y)∧-2147483647≤A - q * C∧A - q * C≤2147483647∧-2147483647≤B - q * D∧B - q * D≤2147483647∧x - q * y < y:=by
 rcases h with h|h
 ·have hs:=h.step hq h3
  have e2:x+A < q * y+q * C+(y+C):=by rw [Int.add_mul,Int.mul_add,Int.one_mul] at h2; exact h2
  have hc:=hs.c0
  have hd:=hs.d0
  have hyc:=hs.yc
  have hb:=hs.b0
  have hsm:=hs.small hy0 hx0 (by omega) (by omega)
  exact ⟨Or.inr hs,by omega,by omega,by omega,by omega,by omega⟩
 ·have hs:=h.step hq h1
  have e2:x+B < q * y+q * D+(y+D):=by rw [Int.add_mul,Int.mul_add,Int.one_mul] at h4; exact h4
  have hc:=hs.c0
  have hd:=hs.d0
  have hyc:=hs.yc
  have hb:=hs.b0
  have hsm:=hs.small hx0 hy0 (by omega) (by omega)
  exact ⟨Or.inl hs,by omega,by omega,by omega,by omega,by omega⟩
theorem Leh.true {x0 y0 A B C D x y q H xl yl:Int} (h:Leh x0 y0 A B C D x y) (hq:0≤q) (hH:0 < H) (hxl:0≤xl) (hxl2:xl≤H) (hyl:0≤yl) (hyl2:yl≤H)
  (h1:q * (y+C)≤x+A) (h2:x+A < (q+1) * (y+C)) (h3:q * (y+D)≤x+B) (h4:x+B < (q+1) * (y+D)) :
  0≤(A * (x0 * H+xl)+B * (y0 * H+yl)) - q * (C * (x0 * H+xl)+D * (y0 * H+yl)) ∧
   (A * (x0 * H+xl)+B * (y0 * H+yl)) - q * (C * (x0 * H+xl)+D * (y0 * H+yl)) < C * (x0 * H+xl)+D * (y0 * H+yl):=by
 have ex:A * (x0 * H+xl)+B * (y0 * H+yl) = (A * x0+B * y0) * H+A * xl+B * yl:=by
  rw [Int.mul_add,Int.mul_add,Int.add_mul,Int.mul_assoc,Int.mul_assoc]; omega
 have ey:C * (x0 * H+xl)+D * (y0 * H+yl) = (C * x0+D * y0) * H+C * xl+D * yl:=by
  rw [Int.mul_add,Int.mul_add,Int.add_mul,Int.mul_assoc,Int.mul_assoc]; omega
 rw [ex,ey]
 rcases h with h|h
 ·rw [← h.hx,← h.hy]
  exact true_step h.a0 h.b0 h.c0 h.d0 hq hH hxl hxl2 hyl hyl2 h2 h3
 ·have e1:A * x0+B * y0 = x:=by rw [h.hx]; omega
  have e2:C * x0+D * y0 = y:=by rw [h.hy]; omega
  rw [e1,e2]
  have:=true_step h.a0 h.b0 h.c0 h.d0 hq hH hyl hyl2 hxl hxl2 h4 h1
  rw [show x * H+A * xl+B * yl = x * H+B * yl+A * xl by omega,show y * H+C * xl+D * yl = y * H+D * yl+C * xl by omega]
  exact this
def Tru (Xt Yt:Nat) (A B C D:Int):Prop:=∃ X Y:Nat,(X:Int) = A * Xt+B * Yt∧(Y:Int) = C * Xt+D * Yt∧Nat.gcd X Y = Nat.gcd Xt Yt∧((A = 1∧B = 0∧C = 0∧D = 1)∨(Y < X∧X≤Yt))
theorem Tru.start (Xt Yt:Nat):Tru Xt Yt 1 0 0 1:=⟨Xt,Yt,by omega,by omega,rfl,Or.inl ⟨rfl,rfl,rfl,rfl⟩⟩
theorem Tru.step {Xt Yt:Nat} {A B C D q:Int} (h:Tru Xt Yt A B C D) (hq:0≤q) (h1:0≤(A * Xt+B * Yt) - q * (C * Xt+D * Yt)) (h2:(A * Xt+B * Yt) - q * (C * Xt+D * Yt) < C * Xt+D * Yt):Tru Xt Yt C D (A - q * C) (B - q * D):=by
 obtain ⟨X,Y,hX,hY,hg,hc⟩:=h
 rw [← hX,← hY] at h1 h2
 obtain ⟨n,rfl⟩:=Int.eq_ofNat_of_zero_le hq
 have e:(X:Int) - (n:Int) * (Y:Int) = ((X - n * Y:Nat):Int):=by
  have:n * Y≤X:=by
   have:((n * Y:Nat):Int)≤(X:Int):=by rw [Int.natCast_mul]; omega
   omega
  rw [Int.natCast_sub this,Int.natCast_mul]
 rw [e] at h1 h2
 have hle:n * Y≤X:=by
  have:((n * Y:Nat):Int)≤(X:Int):=by rw [Int.natCast_mul]; omega
  omega
 have hlt:X - n * Y < Y:=by omega
 have hmod:X % Y = X - n * Y:=by
  have:X = n * Y+(X - n * Y):=by omega
  rw [this,Nat.mul_comm n Y,Nat.mul_add_mod,Nat.mod_eq_of_lt (by rw [Nat.mul_comm Y n]; omega)]
  rw [Nat.mul_comm Y n]
  omega
 refine ⟨Y,X - n * Y,hY,?_,?_,Or.inr ⟨hlt,?_⟩⟩
 ·rw [← e,hX,hY,Int.sub_mul,Int.sub_mul,Int.mul_add,Int.mul_assoc,Int.mul_assoc]; omega
 ·rw [← hmod,gcd_next,hg]
 ·rcases hc with ⟨_,_,hC,hD⟩|⟨h3,h4⟩
  ·rw [hC,hD] at hY; omega
  ·omega
def SubAns (w:World) (base:Nat) (e:Ending) (m m':Nat):Prop:=
 (m < m'∧e = .returned (.tuple #[.agg #[.slice none 0 0],.bool false,.int .i64 0])) ∨
 (m'≤m∧∃ a n cap,e = .returned (.tuple #[.agg #[.slice a n cap],.bool true,.int .i64 0])∧Mine w base a n cap (m - m'))
theorem cmp_ge {m m':Nat} (h:m'≤m):decide (cmpI m m' < 0) = false:=by
 by_cases e:m = m'
 ·rw [e,cmpI_eq]; decide
 ·rw [cmpI_gt (by omega)]; decide
theorem Box.but {w w':World} {p C:Nat} {v:Value} (h:Box w p v) (k:Only C w w') (hne:p≠C):Box w' p v:=by
 unfold Box; rw [k.block p hne]; exact h
theorem Mine.cut0 {w:World} {base c m:Nat} {a:Option Addr} (h:Mine w base a 0 c m):Own w base (.slice a 0 0) []:=by
 obtain ⟨xs,hn,ho,_⟩:=h
 obtain rfl:xs = []:=List.length_eq_zero_iff.1 hn
 rcases ho with ⟨e,_⟩|⟨g,cap,cur,e,hg,hh,h1,h2,h3,hc⟩
 ·injection e with e1 e2 e3
  exact Or.inl ⟨by rw [e1],rfl⟩
 ·injection e with e1 e2 e3
  exact Or.inr ⟨g,0,cur,by rw [e1]; rfl,hg,hh,Nat.zero_le _,Nat.zero_le _,by omega,fun j hj=>by simp at hj⟩
theorem checkBoth_num (a a':Option Addr) (n n' cap cap' m m':Nat) (w:World) (h:Num w a n m) (h':Num w a' n' m') :
  Calls Tryz.prog 177 #[.agg #[.slice a n cap],.agg #[.slice a' n' cap']] w fun e w'=>e = .returned (.int .i64 0)∧Below w.heap.size w w':=by
 obtain ⟨zs,kn,kl,kw,kN,kv,kb⟩:=h
 obtain ⟨ys,kn',kl',kw',kN',kv',kb'⟩:=h'
 have:=checkBoth_any a a' cap cap' zs ys w (by omega) (by omega) kl kl'
 rw [kn,kn',chk2_ok (chk_ok (by omega) kN) (chk_ok (by omega) kN')] at this
 exact this
theorem sub_lt (a a':Option Addr) (n n' cap cap' m m':Nat) (w:World) (h:Num w a n m) (h':Num w a' n' m') (hlt:m < m') :
  Calls Tryz.prog 167 #[.agg #[.slice a n cap],.agg #[.slice a' n' cap']] w fun e w'=>SubAns w' w.heap.size e m m'∧Below w.heap.size w w':=by
 have hN:=h
 have hN':=h'
 obtain ⟨xs,hn,hl,hw,hNn,hv,hb⟩:=h
 obtain ⟨ys,hn',hl',hw',hNn',hv',hb'⟩:=h'
 have hck:=fun (o1 o2 o3:Obj)=>checkBoth_any a a' cap cap' xs ys (((w.alloc o1).alloc o2).alloc o3) (by omega) (by omega) (((hl.alloc _).alloc _).alloc _) (((hl'.alloc _).alloc _).alloc _)
 rw [hn,hn',chk2_ok (chk_ok (by omega) hNn) (chk_ok (by omega) hNn')] at hck
 have HK:=hide hck
 have hcm:=cmpI_lt hlt
 have HLT:=hide hlt
 clear hck hn hn' hv hv' hl hl' hlt
 go_enter Tryz.func167,Tryz.ntmps167
 go_wp2_with fail
 refine (unhide HK _ _ _).mono ?_
 rintro e w1 ⟨rfl,hb1⟩
 obtain ⟨hc1,hf1⟩:=bcell hb1
 have hby:=(Box.made ((w.alloc (.cells #[.slice a n cap] 44)).alloc (.cells #[.slice a' n' cap'] 44)) (.slice none 0 0)).kept hb1
 simp only [World.size_alloc] at hby
 have hB:=hide (gr_trans (gr_trans (gr_trans (gr_alloc w (.cells #[.slice a n cap] 44)) (gr_alloc _ (.cells #[.slice a' n' cap'] 44))) (gr_alloc _ (.cells #[.slice none 0 0] 44))) hb1)
 have h1:=hN.kept (unhide hB)
 have h1':=hN'.kept (unhide hB)
 clear hb1 HK hN hN'
 go_wp2_with fail
 refine (compare_any a a' n n' cap cap' m m' w1 h1 h1').mono ?_
 rintro e w2 ⟨rfl,hb2⟩
 rw [hcm]
 have hX2:=hby.kept hb2
 have hcx:=hX2.cell
 have hfx:=hX2.frozen
 have HB2:=hide (gr_trans (unhide hB) hb2)
 clear hb2 h1 h1' hc1 hf1
 go_wp2
 exact bodyPost_ret (v:=.tuple #[.agg #[.slice none 0 0],.bool false,.int .i64 0]) (by simp [results,Tryz.results167,go_sem,hcx]) rfl ⟨Or.inl ⟨unhide HLT,rfl⟩,(unhide HB2).setCell (Nat.le_add_right _ 2) _⟩
theorem sub_ge (b off:Nat) (a':Option Addr) (n n' cap cap' m m':Nat) (xs:List Nat) (w:World) (h:Num w (some ⟨b,off,none⟩) n m) (h':Num w a' n' m') (hle:m'≤m)
  (hn:Hid (xs.length = n)) (hp:0 < n) (hv:Hid (Pl.val xs = m)) (hw:Pl.Wf xs) (hlt:b < w.heap.size) (hc:Hid (∀ j,j < n→w.cell? ⟨b,off+j,none⟩ = some (.int .u32 ((xs[j]?.getD 0:Nat):Int)))) :
  Calls Tryz.prog 167 #[.agg #[.slice (some ⟨b,off,none⟩) n cap],.agg #[.slice a' n' cap']] w fun e w'=>SubAns w' w.heap.size e m m'∧Below w.heap.size w w':=by
 have hN:=h
 have hN':=h'
 have hnb:=h.len
 have hnn:n'≤n:=by
  obtain ⟨zs,kn,_,kw,kN,kv,_⟩:=h
  obtain ⟨ys,kn',_,kw',kN',kv',_⟩:=h'
  have:=(Pl.val_le_len kw' kN' n).2 (by rw [kv']; have:=Pl.val_lt kw; rw [kn,kv] at this; omega)
  omega
 have hck:=fun (o1 o2 o3:Obj)=>checkBoth_num (some ⟨b,off,none⟩) a' n n' cap cap' m m' (((w.alloc o1).alloc o2).alloc o3) (((h.alloc _).alloc _).alloc _) (((h'.alloc _).alloc _).alloc _)
 have HK:=hide hck
 have hcm:=cmp_ge hle
 have HLE:=hide hle
 have HNN:=hide (And.intro hnn hnb)
 clear hck hle hnn h h'
 go_enter Tryz.func167,Tryz.ntmps167
 go_wp2_with fail
 refine (unhide HK _ _ _).mono ?_
 rintro e w1 ⟨rfl,hb1⟩
 obtain ⟨hc1,hf1⟩:=bcell hb1
 have hbb:=(Box.made (w.alloc (.cells #[.slice (some ⟨b,off,none⟩) n cap] 44)) (.slice a' n' cap')).alloc (.cells #[.slice none 0 0] 44)
 have hbb:=hbb.kept hb1
 have hby:=(Box.made ((w.alloc (.cells #[.slice (some ⟨b,off,none⟩) n cap] 44)).alloc (.cells #[.slice a' n' cap'] 44)) (.slice none 0 0)).kept hb1
 have hba:=(((Box.made w (.slice (some ⟨b,off,none⟩) n cap)).alloc (.cells #[.slice a' n' cap'] 44)).alloc (.cells #[.slice none 0 0] 44)).kept hb1
 simp only [World.size_alloc] at hby hbb hba
 have hB:=hide (gr_trans (gr_trans (gr_trans (gr_alloc w (.cells #[.slice (some ⟨b,off,none⟩) n cap] 44)) (gr_alloc _ (.cells #[.slice a' n' cap'] 44))) (gr_alloc _ (.cells #[.slice none 0 0] 44))) hb1)
 have h1:=hN.kept (unhide hB)
 have h1':=hN'.kept (unhide hB)
 clear hb1 HK hN hN'
 go_wp2_with fail
 refine (compare_any (some ⟨b,off,none⟩) a' n n' cap cap' m m' w1 h1 h1').mono ?_
 rintro e w2 ⟨rfl,hb2⟩
 have hba2:=hba.kept hb2
 have hbb2:=hbb.kept hb2
 have hby2:=hby.kept hb2
 have hca:=hba2.cell
 have hN2:=h1'.kept hb2
 have HB2:=hide (gr_trans (unhide hB) hb2)
 have hs2:=(unhide HB2).size
 clear hb2 h1 h1' hc1 hf1 hba hbb hby
 go_wp2_with fail
 refine (clone_some b off cap n xs w2 hn hp (by omega) (by omega) (fun j hj=>((unhide HB2).cell (by exact hlt)).trans (unhide hc j hj))).mono ?_
 rintro e w3 ⟨g,c,rfl,hg,hgc,hc9,hrow,_,hb3⟩
 have hbb3:=hbb2.kept hb3
 have hby3:=hby2.kept hb3
 have hcb:=hbb3.cell
 have hN3:=hN2.kept hb3
 have HB3:=hide (gr_trans (unhide HB2) hb3)
 have hgy:w.heap.size+1+1 < g:=Nat.lt_of_lt_of_le hby2.lt hg
 have hgw:w.heap.size≤g:=Nat.le_trans hs2 hg
 have HG:=hide (And.intro hg (And.intro hgy hgw))
 have hnc:∀ B2 off2,a' = some ⟨B2,off2,none⟩→0 < n'→B2≠g:=by
  intro B2 off2 e h0 hbb
  obtain ⟨ys,kn,kl,_⟩:=hN2
  rcases kl.parts with hx|⟨_,b2,off2',ha,hblt,_⟩
  ·rw [hx] at kn; simp at kn; omega
  ·rw [ha] at e; injection e with e; injection e with e1; omega
 have HC:=hide hnc
 clear hb3 hca hba2 hbb2 hby2 hN2 hnc hg hgy hgw
 go_wp2_with fail
 refine (?_:Calls Tryz.prog 183 #[.slice (some ⟨g,0,none⟩) n c,.slice a' n' cap'] w3 fun e w'=>∃ (out:List Nat),e = .returned (.tuple #[])∧out.length = n∧Pl.Wf out∧Pl.val out = m - m'∧Row w' g out∧Only g w3 w').mono ?_
 ·obtain ⟨ys,kn',kl',kw',kN',kv',kb'⟩:=hN3
  rcases kl'.parts with hx|⟨h0,b2,off2,rfl,_,kc⟩
  ·have hn0:n' = 0:=by rw [← kn',hx]; rfl
   have hm0:m' = 0:=by rw [← kv',hx]; rfl
   subst hn0 hm0
   refine (takeInto_zero g n c cap' a' xs w3 hn (by omega) hw hrow).mono ?_
   rintro e w' ⟨out,he,ho,hw',hv',hr,hO⟩
   exact ⟨out,he,ho,hw',by rw [hv',unhide hv]; rfl,hr,hO⟩
  ·refine (takeInto_some g n b2 off2 n' c cap' xs ys w3 hn (hide kn') (unhide HNN).1 (by omega) (unhide HC b2 off2 rfl (by omega)) (hide (by rw [kv',unhide hv]; exact unhide HLE)) hw kw' hrow (fun j hj=>kc j (by omega))).mono ?_
   rintro e w' ⟨out,he,ho,hw',hv',hr,hO⟩
   exact ⟨out,he,ho,hw',by rw [hv',kv',unhide hv],hr,hO⟩
 rintro e w4 ⟨out,rfl,hol,how,hov,hrow4,honly⟩
 obtain ⟨hg,hgy,hgw⟩:=unhide HG
 have hby4:=hby3.but honly (Nat.ne_of_lt hgy)
 have HB4:=hide (honly.below (unhide HB3) hgw)
 have HV:=hide hov
 clear hov honly hcb hbb3 hby3 hN3 hrow HB3
 go_wp2_with fail
 refine (trim_at g 0 n c out w4 hol hgc hc9 (fun j hj=>by rw [Nat.zero_add]; exact hrow4.cell j hj)).mono ?_
 rintro e w5 ⟨rfl,l,hl1,h0,h1,rfl⟩
 have HT:=hide (trim_row hrow4 hgw (by omega) how hl1 h0 h1)
 have hcx:=hby4.cell
 have hfx:=hby4.frozen
 have HL:=hide (show l≤16384 by omega)
 clear h0 h1 hl1
 go_wp2
 obtain ⟨t1,t2,t3,t4,t5⟩:=unhide HT
 exact bodyPost_ret (v:=.tuple #[.agg #[.slice (some ⟨g,0,none⟩) l l],.bool true,.int .i64 0]) (by simp [results,Tryz.results167,go_sem,hcx]) rfl ⟨Or.inr ⟨unhide HLE,_,l,l,rfl,out.take l,t1,t2.setBox hby4 _,t3,t4,t5.trans (unhide HV),unhide HL⟩,(unhide HB4).setCell (Nat.le_add_right _ 2) _⟩
theorem sub_none (a a':Option Addr) (cap cap':Nat) (w:World) :
  Calls Tryz.prog 167 #[.agg #[.slice a 0 cap],.agg #[.slice a' 0 cap']] w fun e w'=>SubAns w' w.heap.size e 0 0∧Below w.heap.size w w':=by
 have hz:∀ (w:World) (a:Option Addr),Num w a 0 0:=fun w a=>⟨[],rfl,Or.inl rfl,Pl.wf_nil,Pl.norm_nil,rfl,by omega⟩
 have hck:=fun (o1 o2 o3:Obj)=>checkBoth_any a a' cap cap' [] [] (((w.alloc o1).alloc o2).alloc o3) (by simp) (by simp) (Or.inl rfl) (Or.inl rfl)
 rw [chk2_ok (chk_ok (by simp) Pl.norm_nil) (chk_ok (by simp) Pl.norm_nil)] at hck
 have HK:=hide hck
 have HZ:=hide hz
 clear hck hz
 go_enter Tryz.func167,Tryz.ntmps167
 go_wp2_with fail
 refine (unhide HK _ _ _).mono ?_
 rintro e w1 ⟨rfl,hb1⟩
 have hbb:=((Box.made (w.alloc (.cells #[.slice a 0 cap] 44)) (.slice a' 0 cap')).alloc (.cells #[.slice none 0 0] 44)).kept hb1
 have hby:=(Box.made ((w.alloc (.cells #[.slice a 0 cap] 44)).alloc (.cells #[.slice a' 0 cap'] 44)) (.slice none 0 0)).kept hb1
 have hba:=(((Box.made w (.slice a 0 cap)).alloc (.cells #[.slice a' 0 cap'] 44)).alloc (.cells #[.slice none 0 0] 44)).kept hb1
 simp only [World.size_alloc] at hby hbb hba
 have hB:=hide (gr_trans (gr_trans (gr_trans (gr_alloc w (.cells #[.slice a 0 cap] 44)) (gr_alloc _ (.cells #[.slice a' 0 cap'] 44))) (gr_alloc _ (.cells #[.slice none 0 0] 44))) hb1)
 have hca:=hba.cell
 have hcb:=hbb.cell
 clear hb1 HK
 go_wp2_with fail
 refine (compare_any a a' 0 0 cap cap' 0 0 w1 (unhide HZ _ _) (unhide HZ _ _)).mono ?_
 rintro e w2 ⟨rfl,hb2⟩
 rw [cmpI_eq]
 have hba2:=hba.kept hb2
 have hbb2:=hbb.kept hb2
 have hby2:=hby.kept hb2
 have hca2:=hba2.cell
 have HB2:=hide (gr_trans (unhide hB) hb2)
 clear hb2 hca hcb hba hbb hby
 go_wp2_with fail
 refine (clone_any a 0 cap 0 w2 (unhide HZ _ _)).mono ?_
 rintro e w3 ⟨⟨a3,c3,rfl,hm3⟩,hb3⟩
 have hbb3:=hbb2.kept hb3
 have hby3:=hby2.kept hb3
 have hcb3:=hbb3.cell
 have hcx:=hby3.cell
 have hfx:=hby3.frozen
 have HB3:=hide (gr_trans (unhide HB2) hb3)
 have HO:=hide ((hm3.mono (unhide HB2).size).cut0)
 clear hb3 hca2 hba2 hbb2 hby2 hm3
 go_wp2_with fail
 refine (takeInto_none c3 a3 a' 0 cap' w3).mono ?_
 rintro e w4 ⟨rfl,rfl⟩
 go_wp2_with fail
 refine (trim_empty a3 c3 w4).mono ?_
 rintro e w5 ⟨rfl,rfl⟩
 go_wp2
 exact bodyPost_ret (v:=.tuple #[.agg #[.slice a3 0 0],.bool true,.int .i64 0]) (by simp [results,Tryz.results167,go_sem,hcx]) rfl ⟨Or.inr ⟨Nat.le_refl _,_,0,0,rfl,[],rfl,(unhide HO).setBox hby3 _,Pl.wf_nil,Pl.norm_nil,rfl,by omega⟩,(unhide HB3).setCell (Nat.le_add_right _ 2) _⟩
theorem sub_any (a a':Option Addr) (n n' cap cap' m m':Nat) (w:World) (h:Num w a n m) (h':Num w a' n' m') :
  Calls Tryz.prog 167 #[.agg #[.slice a n cap],.agg #[.slice a' n' cap']] w fun e w'=>SubAns w' w.heap.size e m m'∧Below w.heap.size w w':=by
 by_cases hlt:m < m'
 ·exact sub_lt a a' n n' cap cap' m m' w h h' hlt
 ·have hN:=h
  obtain ⟨xs,hn,hl,hw,hNn,hv,hb⟩:=h
  rcases hl.parts with hx|⟨hp,b,off,rfl,hltb,hcx⟩
  ·have hm0:m = 0:=by rw [← hv,hx]; rfl
   have hn0:n = 0:=by rw [← hn,hx]; rfl
   have hm':m' = 0:=by omega
   have hn':=(h'.zero).2 hm'
   subst hm0 hn0 hm' hn'
   exact sub_none a a' cap cap' w
  ·exact sub_ge b off a' n n' cap cap' m m' xs w hN h' (by omega) (hide hn) (by omega) (hide hv) hw hltb (hide fun j hj=>hcx j (by omega))
end Go.Proofs.YtfimakkpdjppfaaGreatDoor
