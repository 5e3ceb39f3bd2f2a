/- Of what DigitsNamesRow stands on: Compare Guess QMath. -/
import Derived.Test.YtplihgoapiiigaaGreatDoorPad
import Derived.BigQuiet
namespace Go.Proofs.YtplihgoapiiigaaGreatDoor
open Go.RowKit
set_option maxHeartbeats 1000000
def cmpI (m k:Nat):Int:=if m < k then -1 else if m = k then 0 else 1
theorem cmp_len {xs ys:List Nat} (hx:Pl.Wf xs) (hy:Pl.Norm ys) (h:xs.length < ys.length):Pl.val xs < Pl.val ys:=by
 have h1:=Pl.val_lt hx
 have h2:=Pl.norm_lower hy (by omega)
 have h3:=Pl.pow_le (show xs.length≤ys.length - 1 by omega)
 omega
theorem cmp_at {xs ys:List Nat} (hx:Pl.Wf xs) (k:Nat) (hl:xs.length = ys.length) (hk:k < xs.length) (hd:xs.drop (k+1) = ys.drop (k+1)) (h:xs[k]?.getD 0 < ys[k]?.getD 0):Pl.val xs < Pl.val ys:=by
 rw [Pl.val_split xs k (by omega),Pl.val_split ys k (by omega),Pl.drop_cons xs k hk,Pl.drop_cons ys k (by omega),hd]
 have h1:=Pl.val_lt (Pl.wf_take hx k)
 rw [List.length_take,Nat.min_eq_left (by omega)] at h1
 simp only [Pl.val]
 have h2:=Nat.mul_le_mul_left (4294967296 ^ k) (show xs[k]?.getD 0+4294967296 * Pl.val (ys.drop (k+1))+1≤ys[k]?.getD 0+4294967296 * Pl.val (ys.drop (k+1)) by omega)
 rw [Nat.mul_add,Nat.mul_one] at h2
 omega
theorem cmpI_lt {m k:Nat} (h:m < k):cmpI m k = -1:=by rw [cmpI,if_pos h]
theorem cmpI_gt {m k:Nat} (h:k < m):cmpI m k = 1:=by rw [cmpI,if_neg (by omega),if_neg (by omega)]
theorem cmpI_eq (m:Nat):cmpI m m = 0:=by rw [cmpI,if_neg (by omega),if_pos rfl]
theorem sign_any (b:Bool) (w:World):Calls Tryz.prog 138 #[.bool b] w fun e w'=>e = .returned (.int .i64 (if b then 1 else -1))∧w' = w:=by
 cases b
 all_goals
  go_enter Tryz.func138,Tryz.ntmps138
  go_wp2
  go_ret
  exact ⟨rfl,rfl⟩
theorem compare_some (b off b' off' cap cap' n:Nat) (xs ys:List Nat) (w:World) (hxn:Hid (xs.length = n)) (hyn:Hid (ys.length = n)) (hlt:b < w.heap.size) (hlt':b' < w.heap.size) (hx:Pl.Wf xs) (hy:Pl.Wf ys) (hbig:n≤16384)
  (hc:∀ j,j < n→w.cell? ⟨b,off+j,none⟩ = some (.int .u32 ((xs[j]?.getD 0:Nat):Int)))
  (hc':∀ j,j < n→w.cell? ⟨b',off'+j,none⟩ = some (.int .u32 ((ys[j]?.getD 0:Nat):Int))) :
  Calls Tryz.prog 124 #[.slice (some ⟨b,off,none⟩) n cap,.slice (some ⟨b',off',none⟩) n cap'] w
   fun e w'=>e = .returned (.int .i64 (cmpI (Pl.val xs) (Pl.val ys)))∧Below w.heap.size w w':=by
 go_enter Tryz.func124,Tryz.ntmps124
 go_wp2
 go_loopw [5] (fun t wr=>∃ k:Nat,k≤n∧t = .int .i64 ((k:Int) - 1)∧xs.drop k = ys.drop k∧Below w.heap.size w wr) (fun t _=>(intOf t+1).toNat)
 case atStart=>exact ⟨n,Nat.le_refl _,rfl,by rw [List.drop_eq_nil_of_le (by rw [unhide hxn]; omega),List.drop_eq_nil_of_le (by rw [unhide hyn]; omega)],gr_refl _⟩
 case round=>
  obtain ⟨k,hk,rfl,hd,hbel⟩:=hrel
  by_cases hk0:k = 0
  ·subst hk0
   go_wp2
   go_ret
   rw [List.drop_zero,List.drop_zero] at hd
   exact ⟨ret_int (by rw [hd,cmpI_eq]),hbel⟩
  ·obtain ⟨j,rfl⟩:∃ j,k = j+1:=⟨k - 1,by omega⟩
   obtain ⟨x,hxx⟩:∃ x,x = xs[j]?.getD 0:=⟨_,rfl⟩
   obtain ⟨y,hyy⟩:∃ y,y = ys[j]?.getD 0:=⟨_,rfl⟩
   have hcx:wr.cell? ⟨b,off+j,none⟩ = some (.int .u32 (x:Int)):=by rw [hxx]; exact (hbel.cell (by exact hlt)).trans (hc j (by omega))
   have hcy:wr.cell? ⟨b',off'+j,none⟩ = some (.int .u32 (y:Int)):=by rw [hyy]; exact (hbel.cell (by exact hlt')).trans (hc' j (by omega))
   have HX:=hide hxx
   have HY:=hide hyy
   have HD:=hide hd
   have hxl:=unhide hxn
   have hyl:=unhide hyn
   have hj1:(0:Int)≤(j:Int):=by omega
   have hj2:(j:Int) < (n:Int):=by omega
   have HL:Hid (x = y→xs.drop j = ys.drop j):=fun e=>by
    rw [Pl.drop_cons xs j (by omega),Pl.drop_cons ys j (by omega),hd,← hxx,← hyy,e]
   have HLT:Hid (x < y→Pl.val xs < Pl.val ys):=fun e=>cmp_at hx j (by omega) (by omega) hd (by rw [← hxx,← hyy]; exact e)
   have HGT:Hid (y < x→Pl.val ys < Pl.val xs):=fun e=>cmp_at hy j (by omega) (by omega) hd.symm (by rw [← hxx,← hyy]; exact e)
   clear hxx hyy hd hxl hyl hc hc'
   go_wp2_with fail
   go_quiet (fail)
   have hbq:=below_drewN hbel nq
   have hcx2:(wr.drewN nq).cell? ⟨b,off+j,none⟩ = some (.int .u32 (x:Int)):=hcx
   have hcy2:(wr.drewN nq).cell? ⟨b',off'+j,none⟩ = some (.int .u32 (y:Int)):=hcy
   clear hcx hcy
   generalize wr.drewN nq = wq at *
   by_cases he:x = y
   ·have hne:((x:Int) != (y:Int)) = false:=by simp [he]
    have HE:=hide he
    clear he
    go_wp2
    go_roundw
    case rel=>exact ⟨j,by omega,by go_num,unhide HL (unhide HE),hbq⟩
    case measure=>simp [intOf]
   ·have hne:((x:Int) != (y:Int)) = true:=by simp; omega
    by_cases hlt2:x < y
    ·have hf:decide (y < x) = false:=by simp; omega
     clear he
     go_wp2_with fail
     go_quiet ((go_at_call 138; exact Calls.quiet_of_same (sign_any _ _)))
     go_wp2
     go_ret
     exact ⟨ret_int (by rw [cmpI_lt (unhide HLT hlt2)]),below_drewN hbq _⟩
    ·have hf:decide (y < x) = true:=by simp; omega
     have hgt:y < x:=by omega
     clear he
     go_wp2_with fail
     go_quiet ((go_at_call 138; exact Calls.quiet_of_same (sign_any _ _)))
     go_wp2
     go_ret
     exact ⟨ret_int (by rw [cmpI_gt (unhide HGT hgt)]),below_drewN hbq _⟩
theorem compare_any (a a':Option Addr) (n n' cap cap' m m':Nat) (w:World) (h:Num w a n m) (h':Num w a' n' m') :
  Calls Tryz.prog 124 #[.slice a n cap,.slice a' n' cap'] w fun e w'=>e = .returned (.int .i64 (cmpI m m'))∧Below w.heap.size w w':=by
 obtain ⟨xs,hn,hl,hw,hN,hv,hb⟩:=h
 obtain ⟨ys,hn',hl',hw',hN',hv',hb'⟩:=h'
 by_cases he:n = n'
 ·subst he
  rcases hl.parts with hx|⟨hp,b,off,rfl,hlt,hc⟩
  ·have hn0:n = 0:=by rw [← hn,hx]; rfl
   have hy:ys = []:=List.length_eq_zero_iff.1 (by omega)
   have hm:m = m':=by rw [← hv,← hv',hx,hy]
   subst hm hn0
   clear hn hn' hv hv'
   go_enter Tryz.func124,Tryz.ntmps124
   go_wp2
   refine wp_loop_rounds 1 ?_
   rw [rounds_succ]
   go_wp2
   go_ret
   exact ⟨ret_int (by rw [cmpI_eq]),gr_refl _⟩
  ·rcases hl'.parts with hy|⟨hp',b',off',rfl,hlt',hc'⟩
   ·rw [hy] at hn'; simp at hn'; omega
   ·rw [← hv,← hv']
    exact compare_some b off b' off' cap cap' n xs ys w (hide hn) (hide hn') hlt hlt' hw hw' hb (fun j hj=>hc j (by omega)) (fun j hj=>hc' j (by omega))
 ·have hne:((n:Int) != (n':Int)) = true:=by simp; omega
  by_cases hlt:n < n'
  ·have hc:=cmpI_lt (cmp_len hw hN' (show xs.length < ys.length by omega))
   rw [hv,hv'] at hc
   have HC:=hide hc
   have hf:decide (n' < n) = false:=by simp; omega
   clear hc he hn hn' hv hv'
   go_enter Tryz.func124,Tryz.ntmps124
   go_wp2_with fail
   refine (sign_any _ _).mono ?_
   rintro e w1 ⟨rfl,rfl⟩
   go_wp2
   go_ret
   exact ⟨ret_int (by rw [unhide HC]),gr_refl _⟩
  ·have hc:=cmpI_gt (cmp_len hw' hN (show ys.length < xs.length by omega))
   rw [hv,hv'] at hc
   have HC:=hide hc
   have hf:decide (n' < n) = true:=by simp; omega
   clear hc he hn hn' hv hv'
   go_enter Tryz.func124,Tryz.ntmps124
   go_wp2_with fail
   refine (sign_any _ _).mono ?_
   rintro e w1 ⟨rfl,rfl⟩
   go_wp2
   go_ret
   exact ⟨ret_int (by rw [unhide HC]),gr_refl _⟩
structure Dg (q top next p2 p1 p0:Nat):Prop where
 q32:q < 4294967296
 pos:0 < top
 low:q * top≤p2 * 4294967296+p1
 mend:∀ g l,g * top+l = p2 * 4294967296+p1→l * 4294967296+p0 < g * next→q < g
 out:∀ g l,g * top+l = p2 * 4294967296+p1→4294967296≤l→g < 4294967296
theorem dg_first {q top next p2 p1 p0:Nat} (h:Dg q top next p2 p1 p0):q≤(p2 * 4294967296+p1) / top:=(Nat.le_div_iff_mul_le h.pos).2 h.low
theorem Only.all {w w':World} (h:∀ B,Only B w w') {p:Addr}:w'.cell? p = w.cell? p:=(h (p.block+1)).cell (by omega)
theorem Only.drewN {B:Nat} {w w':World} (h:Only B w w') (n:Nat):Only B w (w'.drewN n):=⟨h.os,h.tape,h.output,h.size,h.block⟩
theorem guess_any (B p b off m cap cap' q top next p2 p1 p0:Nat) (w:World) (hm:m≤20000) (hD:Hid (Dg q top next p2 p1 p0)) (ht:top < 4294967296) (hnx:next < 4294967296) (h2:p2 < 4294967296) (h1:p1 < 4294967296) (h0:p0 < 4294967296) (hpos:0 < top)
  (c2:w.cell? ⟨B,p+(m+2),none⟩ = some (.int .u32 (p2:Int))) (c1:w.cell? ⟨B,p+(m+1),none⟩ = some (.int .u32 (p1:Int))) (c0:w.cell? ⟨B,p+m,none⟩ = some (.int .u32 (p0:Int)))
  (d1:w.cell? ⟨b,off+(m+1),none⟩ = some (.int .u32 (top:Int))) (d0:w.cell? ⟨b,off+m,none⟩ = some (.int .u32 (next:Int))) :
  Calls Tryz.prog 139 #[.slice (some ⟨B,p,none⟩) (m+3) cap,.slice (some ⟨b,off,none⟩) (m+2) cap'] w
   fun e w'=>∃ g:Nat,e = .returned (.int .u32 (g:Int))∧q≤g∧g < 4294967296∧∀ C,Only C w w':=by
 go_enter Tryz.func139,Tryz.ntmps139
 go_wp2
 go_quiet (fail)
 replace c2:(w.drewN nq).cell? ⟨B,p+(m+2),none⟩ = some (.int .u32 (p2:Int)):=c2
 replace c1:(w.drewN nq).cell? ⟨B,p+(m+1),none⟩ = some (.int .u32 (p1:Int)):=c1
 replace c0:(w.drewN nq).cell? ⟨B,p+m,none⟩ = some (.int .u32 (p0:Int)):=c0
 have HO:Hid (∀ C,Only C w (w.drewN nq)):=hide fun C=>(Only.refl C w).drewN nq
 clear d1 d0
 generalize w.drewN nq = wa at *
 have hor:=or_limb p2 p1 h2 h1
 obtain ⟨high,hh⟩:∃ high,high = p2 * 4294967296+p1:=⟨_,rfl⟩
 have hhi:(p2:Int) * 4294967296+(p1:Int) = (high:Int):=by omega
 rw [hhi] at hor
 have hh1:high < 18446744073709551616:=by omega
 have HH:=hide hh
 have hqe:(high:Int) / (top:Int) = ((high / top:Nat):Int):=(Int.natCast_ediv high top).symm
 have hme:(high:Int) % (top:Int) = ((high % top:Nat):Int):=(Int.natCast_emod high top).symm
 have hq1:high / top < 18446744073709551616:=Nat.lt_of_le_of_lt (Nat.div_le_self _ _) hh1
 have hm1:high % top < top:=Nat.mod_lt _ hpos
 have hq0i:(0:Int)≤(high:Int) / (top:Int):=by rw [hqe]; exact Int.natCast_nonneg _
 have hq1i:(high:Int) / (top:Int) < 18446744073709551616:=by rw [hqe]; omega
 have HQ:=hide (And.intro hqe hme)
 clear hh hhi hqe hme
 go_wp2
 go_quiet (fail)
 replace c0:(wa.drewN nq).cell? ⟨B,p+m,none⟩ = some (.int .u32 (p0:Int)):=c0
 replace HO:Hid (∀ C,Only C w (wa.drewN nq)):=hide fun C=>(unhide HO C).drewN nq
 clear c2 c1 hor
 generalize wa.drewN nq = wb at *
 have hg0:Hid (q≤high / top):=by
  have:=dg_first (unhide hD)
  rw [← unhide HH] at this
  exact hide this
 go_wp2
 simp only [show m+2 - 1 = m+1 from rfl]
 go_loopw [9,10] (fun t i wr=>∃ (g l:Nat),t = .int .u64 (g:Int)∧i = .int .u64 (l:Int)∧g * top+l = high∧q≤g∧l < 4294967296∧g < 18446744073709551616∧wr = wb) (fun t _ _=>(intOf t).toNat)
 case atStart=>
  obtain ⟨e1,e2⟩:=unhide HQ
  rw [e1,e2]
  exact ⟨high / top,high % top,rfl,rfl,Nat.div_add_mod' _ _,unhide hg0,by omega,hq1,rfl⟩
 case round=>
  obtain ⟨g,l,rfl,rfl,hgl,hqg,hl,hgb,rfl⟩:=hrel
  have hgl':=hgl
  rw [unhide HH] at hgl'
  have HM:Hid (l * 4294967296+p0 < g * next→q < g):=hide ((unhide hD).mend g l hgl')
  have HX:Hid (∀ g' l',g' * top+l' = high→4294967296≤l'→g' < 4294967296):=hide fun g' l' e h=>(unhide hD).out g' l' (by rw [← unhide HH]; exact e) h
  have HS:Hid (∀ k,g = k+1→k * top+(l+top) = high):=hide fun k e=>by
   rw [← hgl,e,Nat.add_mul]; omega
  have hq32:=(unhide hD).q32
  have HG:=hide hgl
  clear hgl hgl' hq0i hq1i hm1 hq1 HQ
  by_cases hbig:4294967296≤g
  ·obtain ⟨k,rfl⟩:∃ k,g = k+1:=⟨g - 1,by omega⟩
   have hb1:(4294967295:Int) < (k:Int)+1:=by omega
   have hs:=unhide HS k rfl
   have HS':=hide hs
   clear hs hbig
   by_cases hbr:4294967296≤l+top
   ·have hbr':(4294967295:Int) < (l:Int)+(top:Int):=by omega
    have hk:=unhide HX k (l+top) (unhide HS') hbr
    clear hbr
    go_wp2
    go_ret
    exact ⟨k,rfl,by omega,hk,unhide HO⟩
   ·have hbr':(l:Int)+(top:Int)≤4294967295:=by omega
    have HL:Hid (l+top < 4294967296):=hide (by omega)
    clear hbr
    go_wp2
    go_roundw
    case rel=>exact ⟨k,l+top,rfl,by go_num,unhide HS',by omega,unhide HL,by omega,trivial⟩
    case measure=>simp [intOf]
  ·obtain ⟨s,hs⟩:∃ s,s = l * 4294967296+p0:=⟨_,rfl⟩
   obtain ⟨t,ht'⟩:∃ t,t = g * next:=⟨_,rfl⟩
   have hor:=or_limb l p0 hl h0
   rw [show (l:Int) * 4294967296+(p0:Int) = (s:Int) by omega] at hor
   have hm0:=mul_lo g next
   have hm1:=mul_hi (show g < 4294967296 by omega) hnx
   have hti:(g:Int) * (next:Int) = (t:Int):=by rw [ht',Int.natCast_mul]
   rw [hti] at hm0 hm1
   have hsb:s < 18446744073709551616:=by omega
   rw [← hs,← ht'] at HM
   have hbg:(g:Int)≤4294967295:=by omega
   by_cases hmn:s < t
   ·have hqg':=unhide HM hmn
    obtain ⟨k,hk⟩:∃ k,g = k+1:=⟨g - 1,by omega⟩
    have hmi:(s:Int) < (t:Int):=by omega
    have hsub:(g:Int) - 1 = (k:Int):=by omega
    have HS':=hide (unhide HS k hk)
    have HQ':=hide (show q≤k by omega)
    have hks:k < 4294967295:=by omega
    have HKG:=hide (show k < g by omega)
    clear hmn hbig hs ht' HM hqg' hqg hk
    by_cases hbr:4294967296≤l+top
    ·have hbr':(4294967295:Int) < (l:Int)+(top:Int):=by omega
     clear hbr
     go_wp2
     go_ret
     refine ⟨k,rfl,unhide HQ',by omega,unhide HO⟩
    ·have hbr':(l:Int)+(top:Int)≤4294967295:=by omega
     have HL:Hid (l+top < 4294967296):=hide (by omega)
     clear hbr
     go_wp2
     go_roundw
     case rel=>exact ⟨k,l+top,rfl,by go_num,unhide HS',unhide HQ',unhide HL,by omega,trivial⟩
     case measure=>have:=unhide HKG; simp [intOf]; omega
   ·have hmi:(t:Int)≤(s:Int):=by omega
    have HB:Hid (g < 4294967296):=hide (by omega)
    clear hmn hbig hs ht' HM
    go_wp2
    go_ret
    exact ⟨g,rfl,hqg,unhide HB,unhide HO⟩
theorem dg_of {K D P top next p2 p1 p0 lD lP:Nat} (hK:0 < K) (hD:D = lD+K * (next+4294967296 * top)) (hP:P = lP+K * (p0+4294967296 * (p1+4294967296 * p2))) (hlP:lP < K)
  (h0:p0 < 4294967296) (h1:p1 < 4294967296) (htop:0 < top) (hnx:next < 4294967296) (hlt:P < 4294967296 * D) (hp2:p2≤top):Dg (P / D) top next p2 p1 p0:=by
 have hDpos:0 < D:=by
  have:0 < K * (next+4294967296 * top):=Nat.mul_pos hK (by omega)
  omega
 have hPup:P < K * (p0+1+4294967296 * (p1+4294967296 * p2)):=by
  have e:K * (p0+1+4294967296 * (p1+4294967296 * p2)) = K * (p0+4294967296 * (p1+4294967296 * p2))+K:=by
   rw [show p0+1+4294967296 * (p1+4294967296 * p2) = (p0+4294967296 * (p1+4294967296 * p2))+1 by omega,Nat.mul_add,Nat.mul_one]
  omega
 have hDlow:∀ g,K * (g * next+4294967296 * (g * top))≤g * D:=fun g=>by
  have e:K * (g * next+4294967296 * (g * top)) = g * (K * (next+4294967296 * top)):=by
   rw [Nat.mul_left_comm g K,Nat.mul_add g,Nat.mul_left_comm g]
  rw [e]
  exact Nat.mul_le_mul_left g (by omega)
 have hqD:P / D * D≤P:=Nat.div_mul_le_self P D
 refine ⟨?_,htop,?_,?_,?_⟩
 ·exact (Nat.div_lt_iff_lt_mul hDpos).2 hlt
 ·by_cases h:P / D * top≤p2 * 4294967296+p1
  ·exact h
  ·have a1:=hDlow (P / D)
   generalize P / D = q at *
   have a2:K * (p0+1+4294967296 * (p1+4294967296 * p2))≤K * (q * next+4294967296 * (q * top)):=Nat.mul_le_mul_left K (by
    generalize q * top = z at *
    generalize q * next = y at *
    omega)
   omega
 ·intro g l e hm
  have a1:=hDlow g
  have a2:K * (p0+1+4294967296 * (p1+4294967296 * p2))≤K * (g * next+4294967296 * (g * top)):=Nat.mul_le_mul_left K (by
   generalize g * top = z at *
   generalize g * next = y at *
   omega)
  exact (Nat.div_lt_iff_lt_mul hDpos).2 (by omega)
 ·intro g l e hl
  have:g * top < 4294967296 * top:=by
   generalize g * top = z at *
   omega
  exact Nat.lt_of_mul_lt_mul_right this
theorem split2 (xs:List Nat) (m:Nat) (h:xs.length = m+2):Pl.val xs = Pl.val (xs.take m)+4294967296 ^ m * (xs[m]?.getD 0+4294967296 * xs[m+1]?.getD 0):=by
 rw [Pl.val_split xs m (by omega),Pl.drop_cons xs m (by omega),Pl.drop_cons xs (m+1) (by omega),List.drop_eq_nil_of_le (by omega)]
 simp [Pl.val]
theorem split3 (xs:List Nat) (m:Nat) (h:xs.length = m+3):Pl.val xs = Pl.val (xs.take m)+4294967296 ^ m * (xs[m]?.getD 0+4294967296 * (xs[m+1]?.getD 0+4294967296 * xs[m+2]?.getD 0)):=by
 rw [Pl.val_split xs m (by omega),Pl.drop_cons xs m (by omega),Pl.drop_cons xs (m+1) (by omega),Pl.drop_cons xs (m+2) (by omega),List.drop_eq_nil_of_le (by omega)]
 simp [Pl.val]
theorem low_pow {xs:List Nat} (w:Pl.Wf xs) (m:Nat) (h:m≤xs.length):Pl.val (xs.take m) < 4294967296 ^ m:=by
 have:=Pl.val_lt (Pl.wf_take w m)
 rwa [List.length_take,Nat.min_eq_left h] at this
theorem top_le {K D T t p l:Nat} (hD:D < K * (t+1)) (hT:T = l+K * p) (hlt:T < D):p≤t:=by
 by_cases h:p≤t
 ·exact h
 ·have:K * (t+1)≤K * p:=Nat.mul_le_mul_left K (by omega)
  omega
theorem dg_limbs {m z:Nat} {xs rs:List Nat} (hx:xs.length = m+2) (hr:rs.length = m+2) (wx:Pl.Wf xs) (wr:Pl.Wf rs) (hz:z < 4294967296) (ht:xs[m+1]?.getD 0≠0) (hlt:Pl.val rs < Pl.val xs) :
  Dg (Pl.val (z :: rs) / Pl.val xs) (xs[m+1]?.getD 0) (xs[m]?.getD 0) ((z :: rs)[m+2]?.getD 0) ((z :: rs)[m+1]?.getD 0) ((z :: rs)[m]?.getD 0):=by
 have wd:Pl.Wf (z :: rs):=Pl.wf_cons hz wr
 refine dg_of (K:=4294967296 ^ m) (Nat.pow_pos (by decide)) (split2 xs m hx) (split3 (z :: rs) m (by simp [hr])) (low_pow wd m (by simp [hr]; omega)) (Pl.wf_at wd _) (Pl.wf_at wd _) (by omega) (Pl.wf_at wx _) ?_ ?_
 ·show z+4294967296 * Pl.val rs < 4294967296 * Pl.val xs
  omega
 ·rw [List.getElem?_cons_succ]
  have e1:=split2 rs m hr
  have e2:=split2 xs m hx
  have l1:=low_pow wx m (by omega)
  have n1:xs[m]?.getD 0 < 4294967296:=Pl.wf_at wx m
  refine top_le (K:=4294967296 ^ m * 4294967296) (l:=Pl.val (rs.take m)+4294967296 ^ m * rs[m]?.getD 0) ?_ ?_ hlt
  ·rw [e2]
   exact top_bound l1 n1
  ·rw [e1,Nat.mul_add,← Nat.mul_assoc,← Nat.add_assoc]
where
 top_bound {K l n t:Nat} (hl:l < K) (hn:n < 4294967296):l+K * (n+4294967296 * t) < K * 4294967296 * (t+1):=by
  have:K * (n+1)≤K * 4294967296:=Nat.mul_le_mul_left K hn
  rw [Nat.mul_add,Nat.mul_add,← Nat.mul_assoc,Nat.mul_one]
  rw [Nat.mul_add,Nat.mul_one] at this
  omega
theorem q_done {V g P D:Nat} (hD:0 < D) (h:V+g * D = P) (hq:P / D≤g):g = P / D∧V < D:=by
 have h1:g * D≤P:=by omega
 have h2:g≤P / D:=(Nat.le_div_iff_mul_le hD).2 h1
 have h3:g = P / D:=by omega
 refine ⟨h3,?_⟩
 have h4:=Nat.lt_div_mul_add hD (a:=P)
 rw [← h3] at h4
 omega
theorem q_more {V g P D M:Nat} (hV:V < M) (h:V+g * D = P+M):P / D < g:=by
 have hD:0 < D:=by
  cases D with
  | zero=>simp at h; omega
  | succ D=>omega
 rw [Nat.div_lt_iff_lt_mul hD]
 omega
theorem q_back {V V' g P D M c:Nat} (h:V+(g+1) * D = P+M * 1) (ha:V'+M * c = V+D) (hc:c≤1):V'+g * D = P+M * (1 - c):=by
 rw [Nat.add_mul,Nat.one_mul] at h
 rcases Nat.le_one_iff_eq_zero_or_eq_one.1 hc with rfl|rfl
 ·simp at ha ⊢; omega
 ·simp at ha ⊢; omega
theorem top_zero {out:List Nat} {n D:Nat} (hl:out.length = n+1) (h:Pl.val out < D) (hD:D≤4294967296 ^ n):out = out.take n ++ [0]∧Pl.val (out.take n) = Pl.val out:=by
 have e:=Pl.take_snoc out n (by omega)
 rw [List.take_of_length_le (by omega)] at e
 have hv:=Pl.val_take_any out n
 rw [List.take_of_length_le (by omega:out.length≤n+1)] at hv
 have h0:out[n]?.getD 0 = 0:=by
  cases hz:out[n]?.getD 0 with
  | zero=>rfl
  | succ z=>
   rw [hz,Nat.mul_add,Nat.mul_one] at hv
   omega
 rw [h0] at e hv
 exact ⟨e,by simpa using hv.symm⟩
end Go.Proofs.YtplihgoapiiigaaGreatDoor
