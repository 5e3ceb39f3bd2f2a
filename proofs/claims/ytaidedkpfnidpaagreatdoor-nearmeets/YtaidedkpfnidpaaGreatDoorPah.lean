/- Of what NearMeetsRow stands on: UpOver UpDown. -/
import Derived.Test.YtaidedkpfnidpaaGreatDoorPae
import Derived.Test.YtaidedkpfnidpaaGreatDoorPag
import Derived.Test.YtaidedkpfnidpaaGreatDoorPad
namespace Go.Proofs.YtaidedkpfnidpaaGreatDoor
open Go.RowKit
set_option maxHeartbeats 800000
theorem up_over (a:Option Addr) (n cap m k j:Nat) (w:World) (h:Num w a n m) (hm:0 < m) (hj:Bl m j) (hk:524288 < k+j) (_hk2:k < 9223372036854775808) :
  Calls Tryz.prog 63 #[.agg #[.slice a n cap],.int .i64 (k:Int)] w fun e w'=>e = .returned (.tuple #[.agg #[.slice none 0 0],.int .i64 4])∧Below w.heap.size w w':=by
 have H:=hide h
 have hz:=h.zero
 have hn0:((n:Int) == 0) = false:=by simp; omega
 obtain ⟨xs,hn,hl,hw,hN,hv,hb⟩:=h
 have hck:=fun (o1 o2:Obj)=>check_any a cap xs ((w.alloc o1).alloc o2) (by omega) ((hl.alloc _).alloc _)
 rw [hn,chk_ok (by omega) hN] at hck
 have HK:=hide hck
 have HJ:=hide hj
 clear hck hl hn hv hz hj
 go_enter Tryz.func63,Tryz.ntmps63
 go_wp2_with fail
 refine (unhide HK _ _).mono ?_
 rintro e w1 ⟨rfl,hb1⟩
 have hbx:=((Box.made w (.slice a n cap)).alloc (.cells #[.slice none 0 0] 27)).kept hb1
 have hby:=(Box.made (w.alloc (.cells #[.slice a n cap] 27)) (.slice none 0 0)).kept hb1
 simp only [World.size_alloc] at hby
 have hcx:=hbx.cell
 have hcy:=hby.cell
 have hfy:=hby.frozen
 have HB:=hide (gr_trans (gr_trans (gr_alloc w (.cells #[.slice a n cap] 27)) (gr_alloc _ (.cells #[.slice none 0 0] 27))) hb1)
 clear hb1 HK
 go_wp2_with fail
 refine (bitLength_any a n cap m w1 ((unhide H).kept (unhide HB))).mono ?_
 rintro e w2 ⟨⟨j2,rfl,hB2,hle⟩,rfl⟩
 obtain rfl:j2 = j:=hB2.uniq (unhide HJ)
 clear hB2
 have hgt:(524288:Int) - (j2:Int) < (k:Int):=by omega
 clear hk
 go_wp2
 exact bodyPost_ret (v:=.tuple #[.agg #[.slice none 0 0],.int .i64 4]) (by simp [results,Tryz.results63,go_sem,hcy]) rfl ⟨rfl,(unhide HB).setCell (by simp) _⟩
theorem check_num (a:Option Addr) (n cap m:Nat) (w:World) (h:Num w a n m) :
  Calls Tryz.prog 98 #[.agg #[.slice a n cap]] w fun e w'=>e = .returned (.int .i64 0)∧Below w.heap.size w w':=by
 obtain ⟨xs,hn,hl,hw,hN,hv,hb⟩:=h
 have:=check_any a cap xs w (by omega) hl
 rw [hn,chk_ok (by omega) hN] at this
 exact this
theorem Mine.cap {w:World} {base:Nat} {a:Option Addr} {n cap m:Nat} (h:Mine w base a n cap m):n≤cap∧cap≤9223372036854775807:=by
 obtain ⟨xs,hn,ho,_⟩:=h
 obtain ⟨a',c',e,h1,h2,_⟩:=ho.lim
 injection e with e1 e2 e3
 omega
theorem up_zero (a:Option Addr) (cap k:Nat) (w:World) :
  Calls Tryz.prog 63 #[.agg #[.slice a 0 cap],.int .i64 (k:Int)] w fun e w'=>e = .returned (.tuple #[.agg #[.slice none 0 0],.int .i64 0])∧Below w.heap.size w w':=by
 have HK:=hide (fun (o1 o2:Obj)=>check_num a 0 cap 0 ((w.alloc o1).alloc o2) ⟨[],rfl,Or.inl rfl,Pl.wf_nil,Pl.norm_nil,rfl,by omega⟩)
 go_enter Tryz.func63,Tryz.ntmps63
 go_wp2_with fail
 refine (unhide HK _ _).mono ?_
 rintro e w1 ⟨rfl,hb1⟩
 have hbx:=((Box.made w (.slice a 0 cap)).alloc (.cells #[.slice none 0 0] 27)).kept hb1
 have hby:=(Box.made (w.alloc (.cells #[.slice a 0 cap] 27)) (.slice none 0 0)).kept hb1
 simp only [World.size_alloc] at hby
 have hcx:=hbx.cell
 have hcy:=hby.cell
 have hfy:=hby.frozen
 have HB:=hide (gr_trans (gr_trans (gr_alloc w (.cells #[.slice a 0 cap] 27)) (gr_alloc _ (.cells #[.slice none 0 0] 27))) hb1)
 clear hb1 HK
 go_wp2
 exact bodyPost_ret (v:=.tuple #[.agg #[.slice none 0 0],.int .i64 0]) (by simp [results,Tryz.results63,go_sem,hcy]) rfl ⟨rfl,(unhide HB).setCell (by simp) _⟩
theorem up_in (a:Option Addr) (n cap m k j:Nat) (w:World) (h:Num w a n m) (hm:0 < m) (hj:Bl m j) (hk:k+j≤524288) :
  Calls Tryz.prog 63 #[.agg #[.slice a n cap],.int .i64 (k:Int)] w fun e w'=>Ans w' w.heap.size e (m * 2 ^ k)∧Below w.heap.size w w':=by
 have H:=hide h
 have hz:=h.zero
 have hn0:((n:Int) == 0) = false:=by simp; omega
 have HK:=hide (fun (o1 o2:Obj)=>check_num a n cap m ((w.alloc o1).alloc o2) ((h.alloc o1).alloc o2))
 have hnb:=h.len
 have HJ:=hide hj
 have hk2:k≤524288:=by omega
 clear hz hj h
 go_enter Tryz.func63,Tryz.ntmps63
 go_wp2_with fail
 refine (unhide HK _ _).mono ?_
 rintro e w1 ⟨rfl,hb1⟩
 have hbx:=((Box.made w (.slice a n cap)).alloc (.cells #[.slice none 0 0] 27)).kept hb1
 have hby:=(Box.made (w.alloc (.cells #[.slice a n cap] 27)) (.slice none 0 0)).kept hb1
 simp only [World.size_alloc] at hby
 have hcx:=hbx.cell
 have HB:=hide (gr_trans (gr_trans (gr_alloc w (.cells #[.slice a n cap] 27)) (gr_alloc _ (.cells #[.slice none 0 0] 27))) hb1)
 clear hb1 HK
 go_wp2_with fail
 refine (bitLength_any a n cap m w1 ((unhide H).kept (unhide HB))).mono ?_
 rintro e w2 ⟨⟨j2,rfl,hB2,hle⟩,rfl⟩
 obtain rfl:j2 = j:=hB2.uniq (unhide HJ)
 have hgt:¬ (524288:Int) - (j2:Int) < (k:Int):=by omega
 have HKJ:=hide hk
 clear hk hB2
 go_wp2_with fail
 have hN1:=(unhide H).kept (unhide HB)
 obtain ⟨xs,hn,hl,hw,hN,hv,hb⟩:=hN1
 refine (shiftUp_any a n cap (k / 32) (k % 32) k xs w1 hn (by omega) hl hw (by omega) (by omega) (by omega)).mono ?_
 rintro e w3 ⟨out,rfl,hol,how,hov,hr3,hb3⟩
 rw [hv] at hov
 have hby3:=hby.kept hb3
 have HB3:=hide (gr_trans (unhide HB) hb3)
 have HV:=hide hov
 have hs1:=(unhide HB).size
 have hwl:k / 32≤16384:=by omega
 generalize k / 32 = wh at *
 clear hov hb3 hl hn hv hw hN hcx hbx
 go_wp2_with fail
 refine (limited_at w1.heap.size w.heap.size (wh+n+1) (wh+n+1) out w3 hol hr3 hs1 (Nat.le_refl _) (by omega) how).mono ?_
 rintro e w4 ⟨hans,hb4⟩
 rw [unhide HV] at hans
 have hX4:=hby3.kept hb4
 have hcx:=hX4.cell
 have hfx:=hX4.frozen
 have HB4:=hide (gr_trans (unhide HB3) hb4)
 rcases hans with ⟨a5,n5,c5,rfl,hm⟩|⟨rfl,hm⟩
 ·have HM:=hide hm
  clear hm hb4
  go_wp2
  exact bodyPost_ret (v:=.tuple #[.agg #[.slice a5 n5 c5],.int .i64 0]) (by simp [results,Tryz.results63,go_sem,hcx]) rfl ⟨Or.inl ⟨_,_,_,rfl,(unhide HM).setBox hX4 _⟩,(unhide HB4).setCell (Nat.le_add_right _ 1) _⟩
 ·have HM:=hide hm
  clear hm hb4
  go_wp2
  exact bodyPost_ret (v:=.tuple #[.agg #[.slice none 0 0],.int .i64 4]) (by simp [results,Tryz.results63,go_sem,hcx]) rfl ⟨Or.inr ⟨rfl,unhide HM⟩,(unhide HB4).setCell (Nat.le_add_right _ 1) _⟩
theorem bl_ex (m:Nat):∃ j,Bl m j:=by
 induction m using Nat.strongRecOn with
 | ind m ih=>
  by_cases h:m = 0
  ·exact ⟨0,by subst h; exact bl_zero⟩
  ·obtain ⟨j,h1,h2⟩:=ih (m / 2) (by omega)
   refine ⟨j+1,by rw [Nat.pow_succ]; omega,Or.inr ?_⟩
   rw [Nat.add_sub_cancel]
   rcases h2 with h2|h2
   ·subst h2; simp; omega
   ·by_cases hj:j = 0
    ·subst hj; simp; omega
    ·have:2 ^ j = 2 ^ (j - 1) * 2:=by rw [← Nat.pow_succ]; congr 1; omega
     omega
theorem up_any (a:Option Addr) (n cap m k:Nat) (w:World) (h:Num w a n m) (hk:k < 9223372036854775808) :
  Calls Tryz.prog 63 #[.agg #[.slice a n cap],.int .i64 (k:Int)] w fun e w'=>Ans w' w.heap.size e (m * 2 ^ k)∧Below w.heap.size w w':=by
 by_cases hm:m = 0
 ·subst hm
  obtain rfl:=h.zero.2 rfl
  refine (up_zero a cap k w).mono ?_
  rintro e w' ⟨rfl,hb⟩
  rw [Nat.zero_mul]
  exact ⟨Or.inl ⟨none,0,0,rfl,[],rfl,Or.inl ⟨rfl,rfl⟩,Pl.wf_nil,Pl.norm_nil,rfl,by omega⟩,hb⟩
 ·obtain ⟨j,hj⟩:=bl_ex m
  by_cases hkj:k+j≤524288
  ·exact up_in a n cap m k j w h (by omega) hj hkj
  ·refine (up_over a n cap m k j w h (by omega) hj (by omega) hk).mono ?_
   rintro e w' ⟨rfl,hb⟩
   refine ⟨Or.inr ⟨rfl,⟨?_⟩⟩,hb⟩
   have hj0:j≠0:=fun e=>by subst e; have:=hj.1; simp at this; omega
   have h2:=hj.2.resolve_left hj0
   rw [pow32]
   have h3:2 ^ (32 * Pl.top)≤2 ^ (j - 1+k):=Nat.pow_le_pow_right (by decide) (by rw [Pl.top_eq]; omega)
   rw [Nat.pow_add] at h3
   exact Nat.le_trans h3 (Nat.mul_le_mul_right _ h2)
theorem down_any (a:Option Addr) (n cap m k:Nat) (w:World) (h:Num w a n m) (hcap:n≤cap) (hcap2:cap≤9223372036854775807) (hk:k < 9223372036854775808) :
  Calls Tryz.prog 101 #[.agg #[.slice a n cap],.int .i64 (k:Int)] w fun e w'=>(∃ a' n' c',e = .returned (.tuple #[.agg #[.slice a' n' c'],.int .i64 0])∧Mine w' w.heap.size a' n' c' (m / 2 ^ k))∧Below w.heap.size w w':=by
 have HS:=hide (fun w1 h=>shiftDown_any a n cap m k w1 h hcap hcap2 hk)
 have HK:=hide (fun (o1 o2:Obj)=>check_num a n cap m ((w.alloc o1).alloc o2) ((h.alloc o1).alloc o2))
 have H:=hide h
 clear h hcap hcap2
 go_enter Tryz.func101,Tryz.ntmps101
 go_wp2_with fail
 refine (unhide HK _ _).mono ?_
 rintro e w1 ⟨rfl,hb1⟩
 have hbx:=((Box.made w (.slice a n cap)).alloc (.cells #[.slice none 0 0] 27)).kept hb1
 have hby:=(Box.made (w.alloc (.cells #[.slice a n cap] 27)) (.slice none 0 0)).kept hb1
 simp only [World.size_alloc] at hby
 have hcx:=hbx.cell
 have HB:=hide (gr_trans (gr_trans (gr_alloc w (.cells #[.slice a n cap] 27)) (gr_alloc _ (.cells #[.slice none 0 0] 27))) hb1)
 clear hb1 HK
 go_wp2_with fail
 refine (unhide HS _ ((unhide H).kept (unhide HB))).mono ?_
 rintro e w2 ⟨⟨a2,n2,c2,rfl,hm2⟩,hb2⟩
 have hX2:=hby.kept hb2
 have hcx:=hX2.cell
 have hfx:=hX2.frozen
 have HM:=hide (hm2.mono (unhide HB).size)
 have HB2:=hide (gr_trans (unhide HB) hb2)
 clear hm2 hb2
 go_wp2
 exact bodyPost_ret (v:=.tuple #[.agg #[.slice a2 n2 c2],.int .i64 0]) (by simp [results,Tryz.results101,go_sem,hcx]) rfl ⟨⟨_,_,_,rfl,(unhide HM).setBox hX2 _⟩,(unhide HB2).setCell (Nat.le_add_right _ 1) _⟩
theorem and_one_u32 (e:Nat) (h:e < 4294967296):Go.bits .and .u32 (e:Int) 1 = ((e % 2:Nat):Int):=by
 have h1:(BitVec.ofInt 32 (e:Int)).toNat = e:=by
  rw [BitVec.ofInt_natCast,BitVec.toNat_ofNat]; exact Nat.mod_eq_of_lt (by omega)
 show IntKind.u32.wrap ((BitVec.ofInt 32 (e:Int) &&& BitVec.ofInt 32 1).toNat:Int) = _
 rw [BitVec.toNat_and,h1,show (BitVec.ofInt 32 1).toNat = 1 from rfl,Nat.and_one_is_mod,IntKind.wrap_u32]
 omega
theorem ret_pair {a b:Bool} {v:Value} (h:a = b):Ending.returned (.tuple #[.bool a,v]) = .returned (.tuple #[.bool b,v]):=by rw [h]
theorem beq_one (z:Nat):(((z % 2:Nat):Int) == 1) = decide (z % 2 = 1):=by
 rw [Bool.eq_iff_iff,beq_iff_eq,decide_eq_true_eq]
 omega
theorem bit_row {xs:List Nat} (hw:Pl.Wf xs) (k:Nat):Pl.val xs / 2 ^ k % 2 = xs[k / 32]?.getD 0 / 2 ^ (k % 32) % 2:=by
 have e:2 ^ k = 4294967296 ^ (k / 32) * 2 ^ (k % 32):=by
  rw [show (4294967296:Nat) = 2 ^ 32 from rfl,← Nat.pow_mul,← Nat.pow_add]
  congr 1; omega
 have hd:Pl.val xs / 4294967296 ^ (k / 32) = Pl.val (xs.drop (k / 32)):=by
  by_cases h:k / 32≤xs.length
  ·have hlo:=Pl.val_lt (Pl.wf_take hw (k / 32))
   rw [List.length_take,Nat.min_eq_left h] at hlo
   rw [Pl.val_split xs (k / 32) h,Nat.add_comm,Nat.mul_add_div (Nat.lt_of_le_of_lt (Nat.zero_le _) hlo),Nat.div_eq_of_lt hlo,Nat.add_zero]
  ·have h1:=Pl.val_lt hw
   have h2:=Pl.pow_le (show xs.length≤k / 32 by omega)
   rw [List.drop_eq_nil_of_le (by omega),Nat.div_eq_of_lt (Nat.lt_of_lt_of_le h1 h2)]
   rfl
 rw [e,← Nat.div_div_eq_div_mul,hd,val_mod xs hw (k / 32)]
 generalize Pl.val (xs.drop (k / 32)) = V
 have hp:k % 32 < 32:=by omega
 generalize k % 32 = p at *
 have hs:=pow_split hp
 have hQ:2 ^ (32 - p) = 2 * 2 ^ (31 - p):=by rw [show 32 - p = (31 - p)+1 by omega,Nat.pow_succ,Nat.mul_comm]
 rw [hs,Nat.mod_mul_right_div_self,hQ,Nat.mod_mul_right_mod]
theorem bit_any (a:Option Addr) (n cap m k:Nat) (w:World) (h:Num w a n m) (hk:k < 9223372036854775808) :
  Calls Tryz.prog 103 #[.agg #[.slice a n cap],.int .i64 (k:Int)] w fun e w'=>e = .returned (.tuple #[.bool (decide (m / 2 ^ k % 2 = 1)),.int .i64 0])∧Below w.heap.size w w':=by
 have HK:=hide (fun (o1:Obj)=>check_num a n cap m (w.alloc o1) (h.alloc o1))
 obtain ⟨xs,hn,hl,hw,hN,hv,hb⟩:=h
 have hbr:=bit_row hw k
 rw [hv] at hbr
 have hq:(k:Int) / 32 = ((k / 32:Nat):Int):=by omega
 have hwk:k / 32 < 288230376151711744:=by omega
 obtain ⟨pt,hpt⟩:∃ pt,pt = k % 32:=⟨_,rfl⟩
 have hpk:pt < 32:=by omega
 have hr:(k:Int) % 32 = (pt:Int):=by omega
 rw [← hpt] at hbr
 have HP:=hide hpt.symm
 obtain ⟨wh,hwh⟩:∃ wh,wh = k / 32:=⟨_,rfl⟩
 rw [← hwh] at hq hbr hwk
 by_cases hlt:wh < n
 ·rcases hl.parts with hx|⟨hp,b,off,rfl,hltb,hc⟩
  ·rw [hx] at hn; simp at hn; omega
  ·obtain ⟨x,hxx⟩:∃ x,x = xs[wh]?.getD 0:=⟨_,rfl⟩
   have hx1:x < 4294967296:=by rw [hxx]; exact Pl.wf_at hw wh
   have hcx0:=hc wh (by omega)
   rw [← hxx] at hcx0 hbr
   have HBR:=hide hbr
   have hdl:¬ (n:Int)≤(wh:Int):=by omega
   clear hbr hc hxx hwh hn hv hN hl hpt
   go_enter Tryz.func103,Tryz.ntmps103
   go_wp2_with fail
   refine (unhide HK _).mono ?_
   rintro e w1 ⟨rfl,hb1⟩
   have hbx:=(Box.made w (.slice (some ⟨b,off,none⟩) n cap)).kept hb1
   have hcx:=hbx.cell
   have HB:=hide (gr_trans (gr_alloc w (.cells #[.slice (some ⟨b,off,none⟩) n cap] 27)) hb1)
   have hcx1:w1.cell? ⟨b,off+wh,none⟩ = some (.int .u32 (x:Int)):=((unhide HB).cell (by exact hltb)).trans hcx0
   clear hb1 HK hcx0
   go_wp2
   go_ret2
   refine ⟨ret_pair ?_,unhide HB⟩
   rw [show (x:Int) / 2 ^ pt = ((x / 2 ^ pt:Nat):Int) by rw [Int.natCast_ediv,Int.natCast_pow]; rfl,and_one_u32 _ (Nat.lt_of_le_of_lt (Nat.div_le_self _ _) hx1),unhide HBR,beq_one]
 ·have hbz:m / 2 ^ k % 2 = 0:=by
   rw [hbr,List.getElem?_eq_none (by omega)]
   simp
  have HBR:=hide hbz
  have hdl:(n:Int)≤(wh:Int):=by omega
  clear hbr hbz hwh hn hv hN hl hpt hlt
  go_enter Tryz.func103,Tryz.ntmps103
  go_wp2_with fail
  refine (unhide HK _).mono ?_
  rintro e w1 ⟨rfl,hb1⟩
  have hbx:=(Box.made w (.slice a n cap)).kept hb1
  have hcx:=hbx.cell
  have HB:=hide (gr_trans (gr_alloc w (.cells #[.slice a n cap] 27)) hb1)
  clear hb1 HK
  go_wp2
  go_ret2
  refine ⟨ret_pair ?_,unhide HB⟩
  rw [unhide HBR]
  rfl
end Go.Proofs.YtaidedkpfnidpaaGreatDoor
