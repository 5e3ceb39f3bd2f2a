/- Of what SoftFmasRow stands on: RefUpDown ExCheck RdCut RefLess. -/
import Derived.Test.YtfimakkpdjppfaaGreatDoorPam
import Derived.Test.YtfimakkpdjppfaaGreatDoorPan
import Derived.Test.YtfimakkpdjppfaaGreatDoorPaj
import Derived.Test.YtfimakkpdjppfaaGreatDoorPaf
import Derived.BigQuiet
import Derived.Test.YtfimakkpdjppfaaGreatDoorPab
import Derived.Test.YtfimakkpdjppfaaGreatDoorPai
import Derived.Test.YtfimakkpdjppfaaGreatDoorPag
namespace Go.Proofs.YtfimakkpdjppfaaGreatDoor
open Go.RowKit
set_option maxHeartbeats 2000000
set_option maxRecDepth 20000
theorem rcheck_num (a:Option Addr) (n cap m:Nat) (w:World) (h:Num w a n m) :
  Calls Tryz.prog 41 #[.agg #[.slice a n cap]] w fun e w'=>e = .returned (.int .i64 0)∧Below w.heap.size w w':=by
 obtain ⟨xs,hn,hl,hw,hN,hv,hb⟩:=h
 have:=rcheck_any a cap xs w (by omega) hl
 rw [hn,chk_ok (by omega) hN] at this
 exact this
theorem rdown_any (a:Option Addr) (n cap m k:Nat) (w:World) (h:Num w a n m) (hk:k < 9223372036854775808) :
  Calls Tryz.prog 44 #[.agg #[.slice a n cap],.int .i64 (k:Int)] w fun e w'=>(∃ a' n' c',e = .returned (.tuple #[.agg #[.slice a' n' c'],.int .i64 0])∧Mine w' w.heap.size a' n' c' (m / 2 ^ k))∧Below w.heap.size w w':=by
 have HS:Hid (∀ W,Num W a n m→Calls Tryz.prog 61 #[.slice a n cap,.int .i64 (k:Int)] W fun e w'=>(∃ a' l c,e = .returned (.slice a' l c)∧Mine w' W.heap.size a' l c (m / 2 ^ k))∧Below W.heap.size W w'):=hide (fun W hW=>by
  obtain ⟨xs,hn,hl,hw,hN,hv,hb⟩:=hW
  rw [← hv]
  exact rdown_list a n cap (k / 32) (k % 32) k xs W hn hl hw hb (hide (by omega)) (by omega) hk)
 have HK:=hide (fun (o1 o2:Obj)=>rcheck_num a n cap m ((w.alloc o1).alloc o2) ((h.alloc o1).alloc o2))
 have H:=hide h
 clear h
 go_enter Tryz.func44,Tryz.ntmps44
 go_wp2_with fail
 refine (unhide HK _ _).mono ?_
 rintro e w1 ⟨rfl,hb1⟩
 have hbx:=((Box.made w (.slice a n cap)).alloc (.cells #[.slice none 0 0] 44)).kept hb1
 have hby:=(Box.made (w.alloc (.cells #[.slice a n cap] 44)) (.slice none 0 0)).kept hb1
 simp only [World.size_alloc] at hby
 have hcx:=hbx.cell
 have HB:=hide (gr_trans (gr_trans (gr_alloc w (.cells #[.slice a n cap] 44)) (gr_alloc _ (.cells #[.slice none 0 0] 44))) hb1)
 clear hb1 HK
 go_wp2_with fail
 refine (unhide HS _ ((unhide H).kept (unhide HB))).mono ?_
 rintro e w2 ⟨⟨a2,n2,c2,rfl,hm2⟩,hb2⟩
 have hX2:=hby.kept hb2
 have HM:=hide ((hm2.mono (unhide HB).size).alloc (.cells #[.slice a2 n2 c2] 44))
 have HB2:=hide (gr_trans (gr_trans (unhide HB) hb2) (gr_alloc w2 (.cells #[.slice a2 n2 c2] 44)))
 have hX3:=hX2.alloc (.cells #[.slice a2 n2 c2] 44)
 clear hm2 hb2
 go_wp2_with fail
 refine (rnat_any _ _ n2 c2 _ rfl).mono ?_
 rintro e w3 ⟨rfl,rfl⟩
 have hcx:=hX3.cell
 have hfx:=hX3.frozen
 go_wp2
 exact bodyPost_ret (v:=.tuple #[.agg #[.slice a2 n2 c2],.int .i64 0]) (by simp [results,Tryz.results44,go_sem,hcx]) rfl ⟨⟨_,_,_,rfl,(unhide HM).setBox hX3 _⟩,(unhide HB2).setCell (Nat.le_add_right _ 1) _⟩
theorem rup_zero (a:Option Addr) (cap k:Nat) (w:World) :
  Calls Tryz.prog 46 #[.agg #[.slice a 0 cap],.int .i64 (k:Int)] w fun e w'=>e = .returned (.tuple #[.agg #[.slice none 0 0],.int .i64 0])∧Below w.heap.size w w':=by
 have HK:=hide (fun (o1 o2:Obj)=>rcheck_num a 0 cap 0 ((w.alloc o1).alloc o2) ⟨[],rfl,Or.inl rfl,Pl.wf_nil,Pl.norm_nil,rfl,by omega⟩)
 go_enter Tryz.func46,Tryz.ntmps46
 go_wp2_with fail
 refine (unhide HK _ _).mono ?_
 rintro e w1 ⟨rfl,hb1⟩
 have hbx:=((Box.made w (.slice a 0 cap)).alloc (.cells #[.slice none 0 0] 44)).kept hb1
 have hby:=(Box.made (w.alloc (.cells #[.slice a 0 cap] 44)) (.slice none 0 0)).kept hb1
 simp only [World.size_alloc] at hby
 have hcx:=hbx.cell
 have hcy:=hby.cell
 have hfy:=hby.frozen
 have HB:=hide (gr_trans (gr_trans (gr_alloc w (.cells #[.slice a 0 cap] 44)) (gr_alloc _ (.cells #[.slice none 0 0] 44))) hb1)
 clear hb1 HK
 go_wp2
 exact bodyPost_ret (v:=.tuple #[.agg #[.slice none 0 0],.int .i64 0]) (by simp [results,Tryz.results46,go_sem,hcy]) rfl ⟨rfl,(unhide HB).setCell (by simp) _⟩
theorem rup_num (b off n cap m k j:Nat) (w:World) (h:Num w (some ⟨b,off,none⟩) n m) (hm:0 < m) (hj:Bl m j) (hlt:b < w.heap.size) (hk2:k < 9223372036854775808) :
  Calls Tryz.prog 46 #[.agg #[.slice (some ⟨b,off,none⟩) n cap],.int .i64 (k:Int)] w fun e w'=>Ans w' w.heap.size e (m * 2 ^ k)∧Below w.heap.size w w':=by
 have H:=hide h
 have hz:=h.zero
 have hn0:((n:Int) == 0) = false:=by simp; omega
 have HK:=hide (fun (o1 o2:Obj)=>rcheck_num (some ⟨b,off,none⟩) n cap m ((w.alloc o1).alloc o2) ((h.alloc o1).alloc o2))
 have hnb:=h.len
 have HJ:=hide hj
 clear hj h
 go_enter Tryz.func46,Tryz.ntmps46
 go_wp2_with fail
 refine (unhide HK _ _).mono ?_
 rintro e w1 ⟨rfl,hb1⟩
 have hbx:=((Box.made w (.slice (some ⟨b,off,none⟩) n cap)).alloc (.cells #[.slice none 0 0] 44)).kept hb1
 have hby:=(Box.made (w.alloc (.cells #[.slice (some ⟨b,off,none⟩) n cap] 44)) (.slice none 0 0)).kept hb1
 simp only [World.size_alloc] at hby
 have hcx:=hbx.cell
 have hcy:=hby.cell
 have hfy:=hby.frozen
 have HB:=hide (gr_trans (gr_trans (gr_alloc w (.cells #[.slice (some ⟨b,off,none⟩) n cap] 44)) (gr_alloc _ (.cells #[.slice none 0 0] 44))) hb1)
 clear hb1 HK
 go_wp2_with fail
 refine (rsize_any (some ⟨b,off,none⟩) n cap m w1 ((unhide H).kept (unhide HB))).mono ?_
 rintro e w2 ⟨⟨j2,rfl,hB2,hle⟩,rfl⟩
 obtain rfl:j2 = j:=hB2.uniq (unhide HJ)
 clear hB2
 have hj0:j2≠0:=fun e=>by subst e; have:=(unhide HJ).1; simp at this; omega
 have hlow:=(unhide HJ).2.resolve_left hj0
 by_cases hkj:k+j2≤524288
 ·have hgt:¬ (524288:Int) - (j2:Int) < (k:Int):=by omega
  have hm2:m * 2 ^ k < 2 ^ (k+j2):=by
   rw [Nat.add_comm,Nat.pow_add]
   exact Nat.mul_lt_mul_of_pos_right (unhide HJ).1 (Nat.pow_pos (by decide))
  have hm3:m * 2 ^ k < 4294967296 ^ Pl.top:=by
   rw [pow32]
   exact Nat.lt_of_lt_of_le hm2 (Nat.pow_le_pow_right (by decide) (by rw [Pl.top_eq]; omega))
  have HU:Hid (Calls Tryz.prog 64 #[.slice (some ⟨b,off,none⟩) n cap,.int .i64 (k:Int)] w1 fun e w'=>(∃ a' l c,e = .returned (.slice a' l c)∧Mine w' w1.heap.size a' l c (m * 2 ^ k))∧Below w1.heap.size w1 w'):=hide (by
   obtain ⟨xs,hn,hl,hw,hN,hv,hb⟩:=(unhide H).kept (unhide HB)
   have hc:∀ j,j < n→w1.cell? ⟨b,off+j,none⟩ = some (.int .u32 ((xs[j]?.getD 0:Nat):Int)):=by
    rcases hl with h0|⟨b2,off2,e,hc⟩
    ·rw [h0] at hn; simp at hn; omega
    ·injection e with e
     injection e with e1 e2
     subst e1 e2
     exact fun j hj=>hc j (by omega)
   refine (rup_list b off cap n (k / 32) (k % 32) k xs w1 (hide hn) (by omega) (by omega) hw (by have:=(unhide HB).size; omega) (hide (by omega)) (by omega) (by omega) (hide hc)).mono ?_
   rintro e w' ⟨⟨a',l,c,ys,rfl,h1,h2,h3,h4,h5⟩,h6⟩
   rw [hv] at h5
   refine ⟨⟨a',l,c,rfl,ys,h1,h2,h3,h4,h5,?_⟩,h6⟩
   have:=(Pl.val_le_len h3 h4 Pl.top).2 (by rw [h5]; exact hm3)
   rw [Pl.top_eq] at this
   omega)
  clear hm2 hm3 hkj hlow hj0
  go_wp2_with fail
  refine (unhide HU).mono ?_
  rintro e w3 ⟨⟨a3,n3,c3,rfl,hm3⟩,hb3⟩
  have hX3:=(hby.kept hb3).alloc (.cells #[.slice a3 n3 c3] 44)
  have HM:=hide ((hm3.mono (unhide HB).size).alloc (.cells #[.slice a3 n3 c3] 44))
  have HB3:=hide (gr_trans (gr_trans (unhide HB) hb3) (gr_alloc w3 (.cells #[.slice a3 n3 c3] 44)))
  clear hm3 hb3 hcy hfy
  go_wp2_with fail
  refine (rnat_any _ _ n3 c3 _ rfl).mono ?_
  rintro e w4 ⟨rfl,rfl⟩
  have hcx:=hX3.cell
  have hfx:=hX3.frozen
  go_wp2
  exact bodyPost_ret (v:=.tuple #[.agg #[.slice a3 n3 c3],.int .i64 0]) (by simp [results,Tryz.results46,go_sem,hcx]) rfl ⟨Or.inl ⟨_,_,_,rfl,(unhide HM).setBox hX3 _⟩,(unhide HB3).setCell (Nat.le_add_right _ 1) _⟩
 ·have hgt:(524288:Int) - (j2:Int) < (k:Int):=by omega
  have HO:Hid (Over (m * 2 ^ k)):=hide ⟨by
   rw [pow32]
   have h3:2 ^ (32 * Pl.top)≤2 ^ (j2 - 1+k):=Nat.pow_le_pow_right (by decide) (by rw [Pl.top_eq]; omega)
   rw [Nat.pow_add] at h3
   exact Nat.le_trans h3 (Nat.mul_le_mul_right _ hlow)⟩
  clear hlow hj0 hkj
  go_wp2
  exact bodyPost_ret (v:=.tuple #[.agg #[.slice none 0 0],.int .i64 4]) (by simp [results,Tryz.results46,go_sem,hcy]) rfl ⟨Or.inr ⟨rfl,unhide HO⟩,(unhide HB).setCell (by simp) _⟩
theorem rup_any (a:Option Addr) (n cap m k:Nat) (w:World) (h:Num w a n m) (hk:k < 9223372036854775808) :
  Calls Tryz.prog 46 #[.agg #[.slice a n cap],.int .i64 (k:Int)] w fun e w'=>Ans w' w.heap.size e (m * 2 ^ k)∧Below w.heap.size w w':=by
 by_cases hm:m = 0
 ·subst hm
  obtain rfl:=h.zero.2 rfl
  refine (rup_zero a cap k w).mono ?_
  rintro e w' ⟨rfl,hb⟩
  rw [Nat.zero_mul]
  exact ⟨Or.inl ⟨none,0,0,rfl,[],rfl,Or.inl ⟨rfl,rfl⟩,Pl.wf_nil,Pl.norm_nil,rfl,by omega⟩,hb⟩
 ·obtain ⟨j,hj⟩:=bl_ex m
  have h':=h
  obtain ⟨xs,hn,hl,hw,hN,hv,hb⟩:=h
  rcases hl.parts with h0|⟨_,b,off,rfl,hlt,_⟩
  ·rw [h0] at hv; exact absurd hv.symm hm
  ·exact rup_num b off n cap m k j w h' (by omega) hj hlt hk
def Far (x:Int):Prop:=x < -1073741824∨1073741824 < x
instance (x:Int):Decidable (Far x):=by unfold Far; infer_instance
def dck (s:Bool) (xs:List Nat) (x:Int):Int:=
 if chk xs≠0 then chk xs else if xs.length = 0 then (if s = true∨x≠0 then 40 else 0) else if Pl.val xs % 2 = 0∨Far x then 40 else 0
theorem low_even {x:Nat} {r:List Nat}:Pl.val (x :: r) % 2 = x % 2:=by
 rw [Pl.val]; omega
theorem isNought_yes (a:Option Addr) (cap:Nat) (w:World)  :
  Calls Tryz.prog 92 #[.agg #[.slice a 0 cap]] w fun e w'=>e = .returned (.bool true)∧Below w.heap.size w w':=by
 go_enter Tryz.func92,Tryz.ntmps92
 go_wp2
 go_ret
 exact ⟨rfl,(Fs.one w _ _).fr⟩
theorem isNought_no (a:Option Addr) (n cap:Nat) (hn:0 < n) (w:World)  :
  Calls Tryz.prog 92 #[.agg #[.slice a n cap]] w fun e w'=>e = .returned (.bool false)∧Below w.heap.size w w':=by
 go_enter Tryz.func92,Tryz.ntmps92
 go_wp2
 go_ret
 exact ⟨ret_bool (by simp <;> omega),(Fs.one w _ _).fr⟩
theorem rnone_yes (a:Option Addr) (cap:Nat) (w:World)  :
  Calls Tryz.prog 26 #[.agg #[.slice a 0 cap]] w fun e w'=>e = .returned (.bool true)∧Below w.heap.size w w':=by
 go_enter Tryz.func26,Tryz.ntmps26
 go_wp2
 go_ret
 exact ⟨rfl,(Fs.one w _ _).fr⟩
theorem rnone_no (a:Option Addr) (n cap:Nat) (hn:0 < n) (w:World)  :
  Calls Tryz.prog 26 #[.agg #[.slice a n cap]] w fun e w'=>e = .returned (.bool false)∧Below w.heap.size w w':=by
 go_enter Tryz.func26,Tryz.ntmps26
 go_wp2
 go_ret
 exact ⟨ret_bool (by simp <;> omega),(Fs.one w _ _).fr⟩
theorem beyond_no (x:Int) (hx:-1073741824≤x∧x≤1073741824) (w:World)  :
  Calls Tryz.prog 162 #[.int .i64 x] w fun e w'=>e = .returned (.bool false)∧Below w.heap.size w w':=by
 go_enter Tryz.func162,Tryz.ntmps162
 go_wp2
 go_ret
 exact ⟨ret_bool (by simp <;> omega),(Fs.begin w).fr⟩
theorem beyond_below (x:Int) (hx:x < -1073741824) (w:World)  :
  Calls Tryz.prog 162 #[.int .i64 x] w fun e w'=>e = .returned (.bool true)∧Below w.heap.size w w':=by
 go_enter Tryz.func162,Tryz.ntmps162
 go_wp2
 go_ret
 exact ⟨ret_bool (by simp <;> omega),(Fs.begin w).fr⟩
theorem beyond_above (x:Int) (hx:1073741824 < x) (w:World)  :
  Calls Tryz.prog 162 #[.int .i64 x] w fun e w'=>e = .returned (.bool true)∧Below w.heap.size w w':=by
 go_enter Tryz.func162,Tryz.ntmps162
 go_wp2
 go_ret
 exact ⟨ret_bool (by simp <;> omega),(Fs.begin w).fr⟩
theorem rfar_no (x:Int) (hx:-1073741824≤x∧x≤1073741824) (w:World)  :
  Calls Tryz.prog 43 #[.int .i64 x] w fun e w'=>e = .returned (.bool false)∧Below w.heap.size w w':=by
 go_enter Tryz.func43,Tryz.ntmps43
 go_wp2
 go_ret
 exact ⟨ret_bool (by simp <;> omega),(Fs.begin w).fr⟩
theorem rfar_below (x:Int) (hx:x < -1073741824) (w:World)  :
  Calls Tryz.prog 43 #[.int .i64 x] w fun e w'=>e = .returned (.bool true)∧Below w.heap.size w w':=by
 go_enter Tryz.func43,Tryz.ntmps43
 go_wp2
 go_ret
 exact ⟨ret_bool (by simp <;> omega),(Fs.begin w).fr⟩
theorem rfar_above (x:Int) (hx:1073741824 < x) (w:World)  :
  Calls Tryz.prog 43 #[.int .i64 x] w fun e w'=>e = .returned (.bool true)∧Below w.heap.size w w':=by
 go_enter Tryz.func43,Tryz.ntmps43
 go_wp2
 go_ret
 exact ⟨ret_bool (by simp <;> omega),(Fs.begin w).fr⟩
theorem bit0_odd (a:Option Addr) (n cap m:Nat) (w:World) (h:Num w a n m) (hm:m % 2 = 1) :
  Calls Tryz.prog 168 #[.agg #[.slice a n cap],.int .i64 0] w fun e w'=>e = .returned (.tuple #[.bool true,.int .i64 0])∧Below w.heap.size w w':=by
 have:=bit_any a n cap m 0 w h (by omega)
 rw [show decide (m / 2 ^ 0 % 2 = 1) = true from by simp [hm]] at this
 exact this
theorem dcheck_nil (s:Bool) (a:Option Addr) (cap:Nat) (x:Int) (w:World) (h:Num w a 0 0) :
  Calls Tryz.prog 160 #[.agg #[.bool s,.slice a 0 cap,.int .i64 x]] w fun e w'=>e = .returned (.int .i64 (if s = true∨x≠0 then 40 else 0))∧Below w.heap.size w w':=by
 have H:=hide h
 clear h
 go_enter Tryz.func160,Tryz.ntmps160
 go_wp2_with fail
 refine (check_num a 0 cap 0 _ ((unhide H).kept (gr_alloc _ _))).mono ?_
 rintro e w1 ⟨rfl,hb1⟩
 have hS:=(Fs.one w _ _).kept hb1
 obtain ⟨⟨ya,yb,yc,-⟩,-⟩:=hS.cells
 go_wp2_with fail
 refine (isNought_yes a cap _).mono ?_
 rintro e w2 ⟨rfl,hb2⟩
 replace hS:=hS.kept hb2
 clear ya yb yc
 obtain ⟨⟨yd,ye,yf,-⟩,-⟩:=hS.cells
 by_cases hs:s = true
 ·subst hs
  go_wp2
  go_ret
  exact ⟨by simp,hS.fr⟩
 ·obtain rfl:s = false:=by cases s <;> simp_all
  by_cases hx:x = 0
  ·subst hx
   go_wp2
   go_ret
   exact ⟨by simp,hS.fr⟩
  ·go_wp2
   go_ret
   exact ⟨by simp,hS.fr⟩
theorem dcheck_ok (s:Bool) (a:Option Addr) (n cap m:Nat) (x:Int) (w:World) (h:Num w a n m) (hn:0 < n) (hm:m % 2 = 1) (hx:-1073741824≤x∧x≤1073741824) :
  Calls Tryz.prog 160 #[.agg #[.bool s,.slice a n cap,.int .i64 x]] w fun e w'=>e = .returned (.int .i64 0)∧Below w.heap.size w w':=by
 have H:=hide h
 have HM:=hide hm
 clear h hm
 go_enter Tryz.func160,Tryz.ntmps160
 go_wp2_with fail
 refine (check_num a n cap m _ ((unhide H).kept (gr_alloc _ _))).mono ?_
 rintro e w1 ⟨rfl,hb1⟩
 have hS:=(Fs.one w _ _).kept hb1
 obtain ⟨⟨ya,yb,yc,-⟩,-⟩:=hS.cells
 go_wp2_with fail
 refine (isNought_no a n cap hn _).mono ?_
 rintro e w2 ⟨rfl,hb2⟩
 replace hS:=hS.kept hb2
 clear ya yb yc
 obtain ⟨⟨yd,ye,yf,-⟩,-⟩:=hS.cells
 go_wp2_with fail
 refine (bit0_odd a n cap m _ ((unhide H).kept hS.fr) (unhide HM)).mono ?_
 rintro e w3 ⟨rfl,hb3⟩
 replace hS:=hS.kept hb3
 clear yd ye yf
 obtain ⟨⟨yg,yh,yi,-⟩,-⟩:=hS.cells
 go_wp2_with fail
 refine (beyond_no _ hx _).mono ?_
 rintro e w4 ⟨rfl,hb4⟩
 replace hS:=hS.kept hb4
 clear yg yh yi
 obtain ⟨⟨yj,yk,yl,-⟩,-⟩:=hS.cells
 go_wp2
 go_ret
 exact ⟨rfl,hS.fr⟩
theorem drcheck_bad (s:Bool) (a:Option Addr) (n cap:Nat) (xs:List Nat) (x:Int) (w:World) (hn:xs.length = n) (hbig:n≤9223372036854775807) (hl:Lim w a xs) (hc:chk xs≠0) :
  Calls Tryz.prog 37 #[.agg #[.bool s,.slice a n cap,.int .i64 x]] w fun e w'=>e = .returned (.int .i64 (chk xs))∧Below w.heap.size w w':=by
 have hcb:(chk xs != 0) = true:=by simpa using hc
 have HL:=hide hl
 subst hn
 clear hl hc
 go_enter Tryz.func37,Tryz.ntmps37
 go_wp2_with fail
 refine (rcheck_any a cap xs _ hbig ((unhide HL).alloc _)).mono ?_
 rintro e w1 ⟨rfl,hb1⟩
 have hS:=(Fs.one w _ _).kept hb1
 obtain ⟨⟨ya,yb,yc,-⟩,-⟩:=hS.cells
 go_wp2
 go_ret
 exact ⟨rfl,hS.fr⟩
theorem drcheck_nil (s:Bool) (a:Option Addr) (cap:Nat) (x:Int) (w:World) (h:Num w a 0 0) :
  Calls Tryz.prog 37 #[.agg #[.bool s,.slice a 0 cap,.int .i64 x]] w fun e w'=>e = .returned (.int .i64 (if s = true∨x≠0 then 40 else 0))∧Below w.heap.size w w':=by
 have H:=hide h
 clear h
 go_enter Tryz.func37,Tryz.ntmps37
 go_wp2_with fail
 refine (rcheck_num a 0 cap 0 _ ((unhide H).kept (gr_alloc _ _))).mono ?_
 rintro e w1 ⟨rfl,hb1⟩
 have hS:=(Fs.one w _ _).kept hb1
 obtain ⟨⟨ya,yb,yc,-⟩,-⟩:=hS.cells
 go_wp2_with fail
 refine (rnone_yes a cap _).mono ?_
 rintro e w2 ⟨rfl,hb2⟩
 replace hS:=hS.kept hb2
 clear ya yb yc
 obtain ⟨⟨yd,ye,yf,-⟩,-⟩:=hS.cells
 by_cases hs:s = true
 ·subst hs
  go_wp2
  go_ret
  exact ⟨by simp,hS.fr⟩
 ·obtain rfl:s = false:=by cases s <;> simp_all
  by_cases hx:x = 0
  ·subst hx
   go_wp2
   go_ret
   exact ⟨by simp,hS.fr⟩
  ·go_wp2
   go_ret
   exact ⟨by simp,hS.fr⟩
theorem drcheck_even (s:Bool) (b off n cap m x0:Nat) (x:Int) (w:World) (h:Num w (some ⟨b,off,none⟩) n m) (hn:0 < n) (hb:b < w.heap.size) (hc:w.cell? ⟨b,off,none⟩ = some (.int .u32 (x0:Int))) (hx0:x0 < 4294967296) (hm:x0 % 2 = 0) :
  Calls Tryz.prog 37 #[.agg #[.bool s,.slice (some ⟨b,off,none⟩) n cap,.int .i64 x]] w fun e w'=>e = .returned (.int .i64 40)∧Below w.heap.size w w':=by
 have H:=hide h
 clear h
 have hmo:((x0:Int)).tmod 2 = 0:=by rw [Int.tmod_eq_emod_of_nonneg (by omega)]; omega
 go_enter Tryz.func37,Tryz.ntmps37
 go_wp2_with fail
 refine (rcheck_num (some ⟨b,off,none⟩) n cap m _ ((unhide H).kept (gr_alloc _ _))).mono ?_
 rintro e w1 ⟨rfl,hb1⟩
 have hS:=(Fs.one w _ _).kept hb1
 obtain ⟨⟨ya,yb,yc,-⟩,-⟩:=hS.cells
 go_wp2_with fail
 refine (rnone_no (some ⟨b,off,none⟩) n cap hn _).mono ?_
 rintro e w2 ⟨rfl,hb2⟩
 replace hS:=hS.kept hb2
 clear ya yb yc
 obtain ⟨⟨yd,ye,yf,-⟩,-⟩:=hS.cells
 have hc2:=(hS.fr.cell (p:=⟨b,off,none⟩) hb).trans hc
 go_wp2
 go_ret
 exact ⟨rfl,hS.fr⟩
theorem drcheck_below (s:Bool) (b off n cap m x0:Nat) (x:Int) (w:World) (h:Num w (some ⟨b,off,none⟩) n m) (hn:0 < n) (hb:b < w.heap.size) (hc:w.cell? ⟨b,off,none⟩ = some (.int .u32 (x0:Int))) (hx0:x0 < 4294967296) (hm:x0 % 2 = 1) (hx:x < -1073741824) :
  Calls Tryz.prog 37 #[.agg #[.bool s,.slice (some ⟨b,off,none⟩) n cap,.int .i64 x]] w fun e w'=>e = .returned (.int .i64 40)∧Below w.heap.size w w':=by
 have H:=hide h
 clear h
 have hmo:((x0:Int)).tmod 2 = 1:=by rw [Int.tmod_eq_emod_of_nonneg (by omega)]; omega
 go_enter Tryz.func37,Tryz.ntmps37
 go_wp2_with fail
 refine (rcheck_num (some ⟨b,off,none⟩) n cap m _ ((unhide H).kept (gr_alloc _ _))).mono ?_
 rintro e w1 ⟨rfl,hb1⟩
 have hS:=(Fs.one w _ _).kept hb1
 obtain ⟨⟨ya,yb,yc,-⟩,-⟩:=hS.cells
 go_wp2_with fail
 refine (rnone_no (some ⟨b,off,none⟩) n cap hn _).mono ?_
 rintro e w2 ⟨rfl,hb2⟩
 replace hS:=hS.kept hb2
 clear ya yb yc
 obtain ⟨⟨yd,ye,yf,-⟩,-⟩:=hS.cells
 have hc2:=(hS.fr.cell (p:=⟨b,off,none⟩) hb).trans hc
 go_wp2_with fail
 refine (rfar_below _ hx _).mono ?_
 rintro e w3 ⟨rfl,hb3⟩
 replace hS:=hS.kept hb3
 clear yd ye yf
 obtain ⟨⟨yg,yh,yi,-⟩,-⟩:=hS.cells
 go_wp2
 go_ret
 exact ⟨rfl,hS.fr⟩
theorem drcheck_above (s:Bool) (b off n cap m x0:Nat) (x:Int) (w:World) (h:Num w (some ⟨b,off,none⟩) n m) (hn:0 < n) (hb:b < w.heap.size) (hc:w.cell? ⟨b,off,none⟩ = some (.int .u32 (x0:Int))) (hx0:x0 < 4294967296) (hm:x0 % 2 = 1) (hx:1073741824 < x) :
  Calls Tryz.prog 37 #[.agg #[.bool s,.slice (some ⟨b,off,none⟩) n cap,.int .i64 x]] w fun e w'=>e = .returned (.int .i64 40)∧Below w.heap.size w w':=by
 have H:=hide h
 clear h
 have hmo:((x0:Int)).tmod 2 = 1:=by rw [Int.tmod_eq_emod_of_nonneg (by omega)]; omega
 go_enter Tryz.func37,Tryz.ntmps37
 go_wp2_with fail
 refine (rcheck_num (some ⟨b,off,none⟩) n cap m _ ((unhide H).kept (gr_alloc _ _))).mono ?_
 rintro e w1 ⟨rfl,hb1⟩
 have hS:=(Fs.one w _ _).kept hb1
 obtain ⟨⟨ya,yb,yc,-⟩,-⟩:=hS.cells
 go_wp2_with fail
 refine (rnone_no (some ⟨b,off,none⟩) n cap hn _).mono ?_
 rintro e w2 ⟨rfl,hb2⟩
 replace hS:=hS.kept hb2
 clear ya yb yc
 obtain ⟨⟨yd,ye,yf,-⟩,-⟩:=hS.cells
 have hc2:=(hS.fr.cell (p:=⟨b,off,none⟩) hb).trans hc
 go_wp2_with fail
 refine (rfar_above _ hx _).mono ?_
 rintro e w3 ⟨rfl,hb3⟩
 replace hS:=hS.kept hb3
 clear yd ye yf
 obtain ⟨⟨yg,yh,yi,-⟩,-⟩:=hS.cells
 go_wp2
 go_ret
 exact ⟨rfl,hS.fr⟩
theorem drcheck_ok (s:Bool) (b off n cap m x0:Nat) (x:Int) (w:World) (h:Num w (some ⟨b,off,none⟩) n m) (hn:0 < n) (hb:b < w.heap.size) (hc:w.cell? ⟨b,off,none⟩ = some (.int .u32 (x0:Int))) (hx0:x0 < 4294967296) (hm:x0 % 2 = 1) (hx:-1073741824≤x∧x≤1073741824) :
  Calls Tryz.prog 37 #[.agg #[.bool s,.slice (some ⟨b,off,none⟩) n cap,.int .i64 x]] w fun e w'=>e = .returned (.int .i64 0)∧Below w.heap.size w w':=by
 have H:=hide h
 clear h
 have hmo:((x0:Int)).tmod 2 = 1:=by rw [Int.tmod_eq_emod_of_nonneg (by omega)]; omega
 go_enter Tryz.func37,Tryz.ntmps37
 go_wp2_with fail
 refine (rcheck_num (some ⟨b,off,none⟩) n cap m _ ((unhide H).kept (gr_alloc _ _))).mono ?_
 rintro e w1 ⟨rfl,hb1⟩
 have hS:=(Fs.one w _ _).kept hb1
 obtain ⟨⟨ya,yb,yc,-⟩,-⟩:=hS.cells
 go_wp2_with fail
 refine (rnone_no (some ⟨b,off,none⟩) n cap hn _).mono ?_
 rintro e w2 ⟨rfl,hb2⟩
 replace hS:=hS.kept hb2
 clear ya yb yc
 obtain ⟨⟨yd,ye,yf,-⟩,-⟩:=hS.cells
 have hc2:=(hS.fr.cell (p:=⟨b,off,none⟩) hb).trans hc
 go_wp2_with fail
 refine (rfar_no _ hx _).mono ?_
 rintro e w3 ⟨rfl,hb3⟩
 replace hS:=hS.kept hb3
 clear yd ye yf
 obtain ⟨⟨yg,yh,yi,-⟩,-⟩:=hS.cells
 go_wp2
 go_ret
 exact ⟨rfl,hS.fr⟩
theorem num_first {w:World} {b off n m:Nat} (h:Num w (some ⟨b,off,none⟩) n m) (hn:0 < n):∃ x0:Nat,b < w.heap.size∧w.cell? ⟨b,off,none⟩ = some (.int .u32 (x0:Int))∧x0 < 4294967296∧m % 2 = x0 % 2:=by
 obtain ⟨xs,hl,hL,hw,hN,hv,_⟩:=h
 rcases hL.parts with rfl|⟨hp,b',off',e,hlt,hc⟩
 ·simp at hl; omega
 ·cases e
  cases xs with
  | nil=>simp at hp
  | cons x r=>
   refine ⟨x,hlt,?_,?_,?_⟩
   ·have:=hc 0 (by simp)
    simpa using this
   ·exact hw x (List.mem_cons_self ..)
   ·rw [← hv]; exact low_even
theorem dck_num {w:World} {a:Option Addr} {n:Nat} {xs:List Nat} (hn:xs.length = n) (hl:Lim w a xs) (hw:Pl.Wf xs) (hc:chk xs = 0):Num w a n (Pl.val xs):=by
 have:=chk_zero hc
 exact ⟨xs,hn,hl,hw,this.2,rfl,by omega⟩
theorem drcheck_any (s:Bool) (a:Option Addr) (n cap:Nat) (xs:List Nat) (x:Int) (w:World) (hn:xs.length = n) (hbig:n≤9223372036854775807) (hl:Lim w a xs) (hw:Pl.Wf xs) :
  Calls Tryz.prog 37 #[.agg #[.bool s,.slice a n cap,.int .i64 x]] w fun e w'=>e = .returned (.int .i64 (dck s xs x))∧Below w.heap.size w w':=by
 unfold dck
 by_cases hc:chk xs = 0
 ·rw [if_neg (by simpa using hc)]
  have hN:=dck_num hn hl hw hc
  by_cases h0:n = 0
  ·subst h0
   rw [if_pos hn]
   have h1:=hN.zero.1 rfl
   rw [h1] at hN
   exact drcheck_nil s a cap x w hN
  ·rw [if_neg (by omega)]
   rcases hl.parts with rfl|⟨hp,b,off,rfl,hlt,hcell⟩
   ·simp at hn; omega
   obtain ⟨x0,hb,hx0,hlt0,hmod⟩:=num_first hN (by omega)
   rcases Nat.mod_two_eq_zero_or_one (Pl.val xs) with he|ho
   ·rw [if_pos (Or.inl he)]
    exact drcheck_even s b off n cap _ x0 x w hN (by omega) hb hx0 hlt0 (by omega)
   ·by_cases hf:Far x
    ·rw [if_pos (Or.inr hf)]
     rcases hf with hf|hf
     ·exact drcheck_below s b off n cap _ x0 x w hN (by omega) hb hx0 hlt0 (by omega) hf
     ·exact drcheck_above s b off n cap _ x0 x w hN (by omega) hb hx0 hlt0 (by omega) hf
    ·rw [if_neg (by rintro (h|h); omega; exact hf h)]
     unfold Far at hf
     exact drcheck_ok s b off n cap _ x0 x w hN (by omega) hb hx0 hlt0 (by omega) (by omega)
 ·rw [if_pos (by simpa using hc)]
  exact drcheck_bad s a n cap xs x w hn hbig hl hc
def ahf (m dr:Nat):Int:=if m / 2 ^ (dr - 1) % 2 = 1 then (if dr = 1 then 0 else 1) else -1
theorem ahf_three (m dr:Nat):ahf m dr = -1∨ahf m dr = 0∨ahf m dr = 1:=by
 unfold ahf; split
 ·split <;> simp
 ·simp
def cutN (mode:Nat) (s:Bool) (m dr:Nat):Nat:=m / 2 ^ dr+(if fth mode s (decide (m / 2 ^ dr % 2 = 1)) (ahf m dr) then 1 else 0)
theorem bit_yes (a:Option Addr) (n cap m k:Nat) (w:World) (h:Num w a n m) (hk:k < 9223372036854775808) (hb:m / 2 ^ k % 2 = 1) :
  Calls Tryz.prog 168 #[.agg #[.slice a n cap],.int .i64 (k:Int)] w fun e w'=>e = .returned (.tuple #[.bool true,.int .i64 0])∧Below w.heap.size w w':=by
 have:=bit_any a n cap m k w h hk
 rw [decide_eq_true hb] at this
 exact this
theorem bit_no (a:Option Addr) (n cap m k:Nat) (w:World) (h:Num w a n m) (hk:k < 9223372036854775808) (hb:¬ m / 2 ^ k % 2 = 1) :
  Calls Tryz.prog 168 #[.agg #[.slice a n cap],.int .i64 (k:Int)] w fun e w'=>e = .returned (.tuple #[.bool false,.int .i64 0])∧Below w.heap.size w w':=by
 have:=bit_any a n cap m k w h hk
 rw [decide_eq_false hb] at this
 exact this
theorem ahalf_no (a:Option Addr) (n cap m j:Nat) (w:World) (h:Num w a n m) (hjj:j < 4611686018427387904) (hb:¬ m / 2 ^ j % 2 = 1) :
  Calls Tryz.prog 186 #[.agg #[.slice a n cap],.int .i64 ((j:Int)+1)] w fun e w'=>e = .returned (.int .i64 (-1))∧Below w.heap.size w w':=by
 have H:=hide h
 have HB:=hide hb
 have e1:(j:Int)+1 - 1 = (j:Int):=by omega
 clear h hb
 go_enter Tryz.func186,Tryz.ntmps186
 go_wp2_with fail
 refine (bit_no a n cap m j _ ((unhide H).kept (gr_alloc _ _)) (by omega) (unhide HB)).mono ?_
 rintro e w1 ⟨rfl,hb1⟩
 have hS:=(Fs.one w _ _).kept hb1
 obtain ⟨⟨ya,-⟩,-⟩:=hS.cells
 go_wp2
 go_ret
 exact ⟨rfl,hS.fr⟩
theorem ahalf_yes (a:Option Addr) (n cap m j:Nat) (w:World) (h:Num w a n m) (hjj:j < 4611686018427387904) (hb:m / 2 ^ j % 2 = 1) (hj:0 < j) :
  Calls Tryz.prog 186 #[.agg #[.slice a n cap],.int .i64 ((j:Int)+1)] w fun e w'=>e = .returned (.int .i64 1)∧Below w.heap.size w w':=by
 have H:=hide h
 have HB:=hide hb
 have e1:(j:Int)+1 - 1 = (j:Int):=by omega
 clear h hb
 go_enter Tryz.func186,Tryz.ntmps186
 go_wp2_with fail
 refine (bit_yes a n cap m j _ ((unhide H).kept (gr_alloc _ _)) (by omega) (unhide HB)).mono ?_
 rintro e w1 ⟨rfl,hb1⟩
 have hS:=(Fs.one w _ _).kept hb1
 obtain ⟨⟨ya,-⟩,-⟩:=hS.cells
 have e2:((j:Int)+1 == 1) = false:=by simp; omega
 go_wp2
 go_ret
 exact ⟨rfl,hS.fr⟩
theorem ahalf_one (a:Option Addr) (n cap m:Nat) (w:World) (h:Num w a n m) (hb:m / 2 ^ 0 % 2 = 1) :
  Calls Tryz.prog 186 #[.agg #[.slice a n cap],.int .i64 1] w fun e w'=>e = .returned (.int .i64 0)∧Below w.heap.size w w':=by
 have H:=hide h
 have HB:=hide hb
 clear h hb
 go_enter Tryz.func186,Tryz.ntmps186
 go_wp2_with fail
 refine (bit_yes a n cap m 0 _ ((unhide H).kept (gr_alloc _ _)) (by omega) (unhide HB)).mono ?_
 rintro e w1 ⟨rfl,hb1⟩
 have hS:=(Fs.one w _ _).kept hb1
 obtain ⟨⟨ya,-⟩,-⟩:=hS.cells
 go_wp2
 go_ret
 exact ⟨rfl,hS.fr⟩
theorem ahalf_any (a:Option Addr) (n cap m dr:Nat) (w:World) (h:Num w a n m) (h1:1≤dr) (h2:dr < 4611686018427387904) :
  Calls Tryz.prog 186 #[.agg #[.slice a n cap],.int .i64 (dr:Int)] w fun e w'=>e = .returned (.int .i64 (ahf m dr))∧Below w.heap.size w w':=by
 obtain ⟨j,rfl⟩:∃ j,dr = j+1:=⟨dr - 1,by omega⟩
 have e1:((j+1:Nat):Int) = (j:Int)+1:=by omega
 rw [e1]
 unfold ahf
 rw [show j+1 - 1 = j from by omega]
 by_cases hb:m / 2 ^ j % 2 = 1
 ·rw [if_pos hb]
  by_cases hj:j = 0
  ·subst hj
   rw [if_pos rfl]
   exact ahalf_one a n cap m w h hb
  ·rw [if_neg (by omega)]
   exact ahalf_yes a n cap m j w h (by omega) hb (by omega)
 ·rw [if_neg hb]
  exact ahalf_no a n cap m j w h (by omega) hb
theorem num_le2 {w:World} {a:Option Addr} {n m:Nat} (h:Num w a n m) (hm:m < 18446744073709551616):n≤2:=by
 obtain ⟨xs,hn,hl,hw,hN,hv,hb⟩:=h
 refine Nat.le_of_not_lt fun h3=>?_
 have h4:=Pl.norm_lower hN (by omega:0 < xs.length)
 rw [hv,hn] at h4
 have h5:4294967296 ^ 2≤4294967296 ^ (n - 1):=Nat.pow_le_pow_right (by decide) (by omega)
 omega
theorem cut_whole (s:Bool) (a:Option Addr) (n cap m j mode:Nat) (x:Int) (w:World) (h:Num w a n m) (hj:j < 64) (hm:m < 18446744073709551616) (hp:m * 2 ^ j < 18446744073709551616) :
  Calls Tryz.prog 171 #[.agg #[.bool s,.slice a n cap,.int .i64 x],.int .i64 (x - (j:Int)),.int .u8 (mode:Int)] w fun e w'=>e = .returned (.tuple #[.int .u64 ((m * 2 ^ j:Nat):Int),.bool true])∧Below w.heap.size w w':=by
 have H:=hide h
 have hn2:=num_le2 h hm
 have hj1:x - (j:Int) - x = -(j:Int):=by omega
 have e2:(-(j:Int)≤0):=by omega
 have e3:-(-(j:Int)) = (j:Int):=by omega
 have e4:IntKind.u64.wrap ((m:Int) * 2 ^ j) = ((m * 2 ^ j:Nat):Int):=by
  rw [show ((m:Int) * 2 ^ j) = ((m * 2 ^ j:Nat):Int) from by simp,IntKind.wrap_u64]; omega
 clear h
 go_enter Tryz.func171,Tryz.ntmps171
 go_wp2_with fail
 refine (low_small a n cap m _ ((unhide H).kept (gr_alloc _ _)) hn2).mono ?_
 rintro e w1 ⟨rfl,hb1⟩
 have hS:=(Fs.one w _ _).kept hb1
 obtain ⟨⟨ya,yb,yc,-⟩,-⟩:=hS.cells
 go_wp2
 exact bodyPost_ret (v:=.tuple #[.int .u64 ((m * 2 ^ j:Nat):Int),.bool true]) (by simp [results,Tryz.results171,go_sem]) rfl ⟨rfl,hS.fr⟩
theorem less_step {o q p c c' z y x s B:Nat} (h:o+q = p+B * c) (hs:s+y+c = x+4294967296) (hz:z = s % 4294967296) (hc:c'+s / 4294967296 = 1):(o+B * z)+(q+B * y) = (p+B * x)+B * 4294967296 * c':=by
 have e0:z+y+c = x+4294967296 * c':=by omega
 have e1:B * z+B * y+B * c = B * x+B * 4294967296 * c':=by rw [← Nat.mul_add,← Nat.mul_add,e0,Nat.mul_add,Nat.mul_assoc]
 omega
theorem less_end {o q p B c:Nat} (h:o+q = p+B * c) (hc:c≤1) (ho:o < B) (hq:q≤p):o = p - q:=by
 rcases Nat.lt_or_ge 0 c with h0|h0
 ·have:c = 1:=by omega
  subst this
  omega
 ·have:c = 0:=by omega
  subst this
  omega
def LessTo (base N V:Nat) (e:Ending) (w':World):Prop:=
 ∃ a n c zs,e = .returned (.slice a n c)∧n≤N∧zs.length = n∧Own w' base (.slice a n c) zs∧Pl.Wf zs∧Pl.Norm zs∧Pl.val zs = V
theorem rless_list (a a':Option Addr) (n n' cap cap':Nat) (xs ys:List Nat) (w:World) (hn:xs.length = n) (hn':ys.length = n') (hl:Lim w a xs) (hl':Lim w a' ys) (hw:Pl.Wf xs) (hw':Pl.Wf ys) (hnn:n'≤n) (hM:n≤40000) (hle:Hid (Pl.val ys≤Pl.val xs)) :
  Calls Tryz.prog 67 #[.slice a n cap,.slice a' n' cap'] w fun e w'=>LessTo w.heap.size n (Pl.val xs - Pl.val ys) e w'∧Below w.heap.size w w':=by
 have HLX:=hide (fun (i:Nat) (W:World) (h:Lim W a xs) (hi:i < 9223372036854775808)=>rlimb_any a n cap i xs W hn h hw hi)
 have HLY:=hide (fun (i:Nat) (W:World) (h:Lim W a' ys) (hi:i < 9223372036854775808)=>rlimb_any a' n' cap' i ys W hn' h hw' hi)
 have HL:=hide hl
 have HL':=hide hl'
 have HN:=hide hn
 have HN':=hide hn'
 have HNN:=hide hnn
 clear hl hn hl' hn' hnn
 go_enter Tryz.func67,Tryz.ntmps67
 go_wp2
 go_loopw [5,6,7] (fun s3 s4 s5 wr=>∃ (i c:Nat) (zs:List Nat),i≤n∧s5 = .int .i64 (i:Int)∧s4 = .int .u64 (c:Int)∧c≤1∧Hid (Own wr w.heap.size s3 zs∧zs.length = i∧Pl.Wf zs∧Pl.val zs+Pl.val (ys.take i) = Pl.val (xs.take i)+4294967296 ^ i * c∧Below w.heap.size w wr)) (fun _ _ s5 _=>n - (intOf s5).toNat)
 case atStart=>exact ⟨0,0,[],Nat.zero_le _,rfl,rfl,by omega,hide ⟨Or.inl ⟨rfl,rfl⟩,rfl,Pl.wf_nil,by simp [Pl.val],gr_refl _⟩⟩
 case round=>
  obtain ⟨i,c,zs,hi,rfl,rfl,hc,HS⟩:=hrel
  by_cases hin:i < n
  ·obtain ⟨h1,h2,h3,h4,h5⟩:=unhide HS
   obtain ⟨va,vn,vc,rfl⟩:=h1.slice
   have hvn:=h1.len
   obtain ⟨x,hxx⟩:∃ x,x = xs[i]?.getD 0:=⟨_,rfl⟩
   obtain ⟨y,hyy⟩:∃ y,y = ys[i]?.getD 0:=⟨_,rfl⟩
   have hx1:x < 4294967296:=by rw [hxx]; exact Pl.wf_at hw _
   have hy1:y < 4294967296:=by rw [hyy]; exact Pl.wf_at hw' _
   have L1:=unhide HLX i wr ((unhide HL).below h5) (by omega)
   have L2:=unhide HLY i wr ((unhide HL').below h5) (by omega)
   rw [← hxx] at L1
   rw [← hyy] at L2
   have HL1:=hide L1
   have HL2:=hide L2
   obtain ⟨s,hs⟩:∃ s,s+y+c = x+4294967296:=⟨x+4294967296 - y - c,by omega⟩
   have hs1:s < 8589934592:=by omega
   obtain ⟨v',W',hrun,hO,hap,_⟩:=append_own1 wr w.heap.size vn vc (s % 4294967296) va zs h1 h5.size (by omega)
   have hval:Pl.val (zs ++ [s % 4294967296])+Pl.val (ys.take (i+1)) = Pl.val (xs.take (i+1))+4294967296 ^ (i+1) * (1 - s / 4294967296):=by
    rw [Pl.val_append,Pl.val_one,h2,Nat.pow_succ,Pl.val_take_any xs i,Pl.val_take_any ys i,← hxx,← hyy]
    exact less_step h4 hs rfl (by omega)
   have hB':Below w.heap.size w W':=h5.trans ⟨hap.os,hap.tape,hap.output,hap.size,fun q hq=>hap.block q (by have:=h5.size; omega) (fun e=>by have:=h1.lt q e.symm; omega)⟩
   have hsi:(x:Int)+4294967296 - (y:Int) - (c:Int) = (s:Int):=by omega
   have hs2:s / 4294967296≤1:=by omega
   have HS':=hide (show Own W' w.heap.size v' (zs ++ [s % 4294967296])∧(zs ++ [s % 4294967296]).length = i+1∧Pl.Wf (zs ++ [s % 4294967296])∧_∧Below w.heap.size w W' from ⟨hO,by simp [h2],Pl.wf_append h3 (Pl.wf_one (Nat.mod_lt _ (by decide))),hval,hB'⟩)
   have e2:(s:Int) % 4294967296 = ((s % 4294967296:Nat):Int):=by omega
   rw [← e2] at hrun
   have HSI:=hide hsi
   have HRUN:=hide hrun
   clear h1 h2 h3 h4 h5 hxx hyy L1 L2 hO hap hval hB' hs HS hrun hvn e2 hsi
   go_wp2_with fail
   refine (unhide HL1).mono ?_
   rintro e w1 ⟨rfl,rfl⟩
   go_wp2_with fail
   refine (unhide HL2).mono ?_
   rintro e w1 ⟨rfl,rfl⟩
   go_wp2_with (at_builtin; rw [unhide HSI]; refine wpList_append_run rfl (.tmp 25) (.tmp 28) 42 rfl (unhide HRUN) ?_)
   go_roundw
   case rel=>exact ⟨i+1,1 - s / 4294967296,zs ++ [s % 4294967296],by omega,by go_num,by go_num,by omega,HS'⟩
   case measure=>simp [intOf]; omega
  ·obtain ⟨h1,h2,h3,h4,h5⟩:=unhide HS
   obtain ⟨va,vn,vc,rfl⟩:=h1.slice
   obtain rfl:i = n:=by omega
   have hxn:=unhide HN
   have hyn:=unhide HN'
   have hnn:=unhide HNN
   rw [List.take_of_length_le (by omega),List.take_of_length_le (by omega)] at h4
   have hlt:=Pl.val_lt h3
   rw [h2] at hlt
   have hv:=less_end h4 hc hlt (unhide hle)
   have HT:=hide (rtrim_own w.heap.size _ zs wr h1 h3)
   have HV:=hide hv
   have HB:=hide h5
   have HZ:=hide h2
   clear h1 h2 h3 h4 h5 hv hlt hxn hyn hnn HS
   go_wp2_with fail
   refine (unhide HT).mono ?_
   rintro e w1 ⟨rfl,a2,l,c2,ys2,rfl,t1,t2,t3,t4,t5,t6⟩
   have HM:=hide (show LessTo w.heap.size i (Pl.val xs - Pl.val ys) (.returned (.slice a2 l c2)) wr from ⟨a2,l,c2,ys2,rfl,by have:=unhide HZ; omega,t2,t3,t4,t5,t6.trans (unhide HV)⟩)
   clear t1 t2 t3 t4 t5 t6 HT
   go_wp2
   go_ret
   exact ⟨unhide HM,unhide HB⟩
theorem rcmp_all (a a':Option Addr) (n n' cap cap' m m':Nat) (w:World) (h:Num w a n m) (h':Num w a' n' m') :
  Calls Tryz.prog 66 #[.slice a n cap,.slice a' n' cap'] w fun e w'=>e = .returned (.int .i64 (cmpI m m'))∧Below w.heap.size w w':=by
 by_cases he:n = n'
 ·subst he
  exact rcmp_any a a' n cap cap' m m' w h h'
 ·obtain ⟨xs,hn,hl,hw,hN,hv,hb⟩:=h
  obtain ⟨ys,hn',hl',hw',hN',hv',hb'⟩:=h'
  have hne:((n:Int) != (n':Int)) = true:=by simp; omega
  have hne2:((n:Int) == (n':Int)) = false:=by simp; omega
  by_cases hlt:n < n'
  ·have hc:cmpI m m' = -1:=by rw [← hv,← hv']; exact cmpI_lt (cmp_len hw hN' (by omega))
   rw [hc]
   clear hc hv hv' hn hn' hl hl' hw hw' hN hN' he
   go_enter Tryz.func66,Tryz.ntmps66
   go_wp2
   go_ret
   exact ⟨rfl,gr_refl _⟩
  ·have hlt2:n' < n:=by omega
   have hc:cmpI m m' = 1:=by rw [← hv,← hv']; exact cmpI_gt (cmp_len hw' hN (by omega))
   rw [hc]
   clear hc hv hv' hn hn' hl hl' hw hw' hN hN' he hlt
   go_enter Tryz.func66,Tryz.ntmps66
   go_wp2
   go_ret
   exact ⟨rfl,gr_refl _⟩
end Go.Proofs.YtfimakkpdjppfaaGreatDoor
