/- Of what TurnThereRow stands on: UpOver UpDown BookG RefBits Bad LowBig. -/
import Derived.Test.YtbgafednekomhaaGreatDoorPag
import Derived.Test.YtbgafednekomhaaGreatDoorPai
import Derived.Test.YtbgafednekomhaaGreatDoorPaf
import Derived.Test.YtbgafednekomhaaGreatDoorPaa
import Derived.Maps.AppendAt
import Derived.Laws.OwnMore
namespace Go.Proofs.YtbgafednekomhaaGreatDoor
open Go.RowKit
set_option maxHeartbeats 800000
theorem up_over (a:Option Addr) (n cap m k j:Nat) (w:World) (h:Num w a n m) (hm:0 < m) (hj:Bl m j) (hk:524288 < k+j) (_hk2:k < 9223372036854775808) :
  Calls Tryz.prog 84 #[.agg #[.slice a n cap],.int .i64 (k:Int)] w fun e w'=>e = .returned (.tuple #[.agg #[.slice none 0 0],.int .i64 4])∧Below w.heap.size w w':=by
 have H:=hide h
 have hz:=h.zero
 have hn0:((n:Int) == 0) = false:=by simp; omega
 obtain ⟨xs,hn,hl,hw,hN,hv,hb⟩:=h
 have hck:=fun (o1 o2:Obj)=>check_any a cap xs ((w.alloc o1).alloc o2) (by omega) ((hl.alloc _).alloc _)
 rw [hn,chk_ok (by omega) hN] at hck
 have HK:=hide hck
 have HJ:=hide hj
 clear hck hl hn hv hz hj
 go_enter Tryz.func84,Tryz.ntmps84
 go_wp2_with fail
 refine (unhide HK _ _).mono ?_
 rintro e w1 ⟨rfl,hb1⟩
 have hbx:=((Box.made w (.slice a n cap)).alloc (.cells #[.slice none 0 0] 40)).kept hb1
 have hby:=(Box.made (w.alloc (.cells #[.slice a n cap] 40)) (.slice none 0 0)).kept hb1
 simp only [World.size_alloc] at hby
 have hcx:=hbx.cell
 have hcy:=hby.cell
 have hfy:=hby.frozen
 have HB:=hide (gr_trans (gr_trans (gr_alloc w (.cells #[.slice a n cap] 40)) (gr_alloc _ (.cells #[.slice none 0 0] 40))) hb1)
 clear hb1 HK
 go_wp2_with fail
 refine (bitLength_any a n cap m w1 ((unhide H).kept (unhide HB))).mono ?_
 rintro e w2 ⟨⟨j2,rfl,hB2,hle⟩,rfl⟩
 obtain rfl:j2 = j:=hB2.uniq (unhide HJ)
 clear hB2
 have hgt:(524288:Int) - (j2:Int) < (k:Int):=by omega
 clear hk
 go_wp2
 exact bodyPost_ret (v:=.tuple #[.agg #[.slice none 0 0],.int .i64 4]) (by simp [results,Tryz.results84,go_sem,hcy]) rfl ⟨rfl,(unhide HB).setCell (by simp) _⟩
theorem check_num (a:Option Addr) (n cap m:Nat) (w:World) (h:Num w a n m) :
  Calls Tryz.prog 98 #[.agg #[.slice a n cap]] w fun e w'=>e = .returned (.int .i64 0)∧Below w.heap.size w w':=by
 obtain ⟨xs,hn,hl,hw,hN,hv,hb⟩:=h
 have:=check_any a cap xs w (by omega) hl
 rw [hn,chk_ok (by omega) hN] at this
 exact this
theorem Mine.cap {w:World} {base:Nat} {a:Option Addr} {n cap m:Nat} (h:Mine w base a n cap m):n≤cap∧cap≤9223372036854775807:=by
 obtain ⟨xs,hn,ho,_⟩:=h
 obtain ⟨a',c',e,h1,h2,_⟩:=ho.lim
 injection e with e1 e2 e3
 omega
theorem up_zero (a:Option Addr) (cap k:Nat) (w:World) :
  Calls Tryz.prog 84 #[.agg #[.slice a 0 cap],.int .i64 (k:Int)] w fun e w'=>e = .returned (.tuple #[.agg #[.slice none 0 0],.int .i64 0])∧Below w.heap.size w w':=by
 have HK:=hide (fun (o1 o2:Obj)=>check_num a 0 cap 0 ((w.alloc o1).alloc o2) ⟨[],rfl,Or.inl rfl,Pl.wf_nil,Pl.norm_nil,rfl,by omega⟩)
 go_enter Tryz.func84,Tryz.ntmps84
 go_wp2_with fail
 refine (unhide HK _ _).mono ?_
 rintro e w1 ⟨rfl,hb1⟩
 have hbx:=((Box.made w (.slice a 0 cap)).alloc (.cells #[.slice none 0 0] 40)).kept hb1
 have hby:=(Box.made (w.alloc (.cells #[.slice a 0 cap] 40)) (.slice none 0 0)).kept hb1
 simp only [World.size_alloc] at hby
 have hcx:=hbx.cell
 have hcy:=hby.cell
 have hfy:=hby.frozen
 have HB:=hide (gr_trans (gr_trans (gr_alloc w (.cells #[.slice a 0 cap] 40)) (gr_alloc _ (.cells #[.slice none 0 0] 40))) hb1)
 clear hb1 HK
 go_wp2
 exact bodyPost_ret (v:=.tuple #[.agg #[.slice none 0 0],.int .i64 0]) (by simp [results,Tryz.results84,go_sem,hcy]) rfl ⟨rfl,(unhide HB).setCell (by simp) _⟩
theorem up_in (a:Option Addr) (n cap m k j:Nat) (w:World) (h:Num w a n m) (hm:0 < m) (hj:Bl m j) (hk:k+j≤524288) :
  Calls Tryz.prog 84 #[.agg #[.slice a n cap],.int .i64 (k:Int)] w fun e w'=>Ans w' w.heap.size e (m * 2 ^ k)∧Below w.heap.size w w':=by
 have H:=hide h
 have hz:=h.zero
 have hn0:((n:Int) == 0) = false:=by simp; omega
 have HK:=hide (fun (o1 o2:Obj)=>check_num a n cap m ((w.alloc o1).alloc o2) ((h.alloc o1).alloc o2))
 have hnb:=h.len
 have HJ:=hide hj
 have hk2:k≤524288:=by omega
 clear hz hj h
 go_enter Tryz.func84,Tryz.ntmps84
 go_wp2_with fail
 refine (unhide HK _ _).mono ?_
 rintro e w1 ⟨rfl,hb1⟩
 have hbx:=((Box.made w (.slice a n cap)).alloc (.cells #[.slice none 0 0] 40)).kept hb1
 have hby:=(Box.made (w.alloc (.cells #[.slice a n cap] 40)) (.slice none 0 0)).kept hb1
 simp only [World.size_alloc] at hby
 have hcx:=hbx.cell
 have HB:=hide (gr_trans (gr_trans (gr_alloc w (.cells #[.slice a n cap] 40)) (gr_alloc _ (.cells #[.slice none 0 0] 40))) hb1)
 clear hb1 HK
 go_wp2_with fail
 refine (bitLength_any a n cap m w1 ((unhide H).kept (unhide HB))).mono ?_
 rintro e w2 ⟨⟨j2,rfl,hB2,hle⟩,rfl⟩
 obtain rfl:j2 = j:=hB2.uniq (unhide HJ)
 have hgt:¬ (524288:Int) - (j2:Int) < (k:Int):=by omega
 have HKJ:=hide hk
 clear hk hB2
 go_wp2_with fail
 have hN1:=(unhide H).kept (unhide HB)
 obtain ⟨xs,hn,hl,hw,hN,hv,hb⟩:=hN1
 refine (shiftUp_any a n cap (k / 32) (k % 32) k xs w1 hn (by omega) hl hw (by omega) (by omega) (by omega)).mono ?_
 rintro e w3 ⟨out,rfl,hol,how,hov,hr3,hb3⟩
 rw [hv] at hov
 have hby3:=hby.kept hb3
 have HB3:=hide (gr_trans (unhide HB) hb3)
 have HV:=hide hov
 have hs1:=(unhide HB).size
 have hwl:k / 32≤16384:=by omega
 generalize k / 32 = wh at *
 clear hov hb3 hl hn hv hw hN hcx hbx
 go_wp2_with fail
 refine (limited_at w1.heap.size w.heap.size (wh+n+1) (wh+n+1) out w3 hol hr3 hs1 (Nat.le_refl _) (by omega) how).mono ?_
 rintro e w4 ⟨hans,hb4⟩
 rw [unhide HV] at hans
 have hX4:=hby3.kept hb4
 have hcx:=hX4.cell
 have hfx:=hX4.frozen
 have HB4:=hide (gr_trans (unhide HB3) hb4)
 rcases hans with ⟨a5,n5,c5,rfl,hm⟩|⟨rfl,hm⟩
 ·have HM:=hide hm
  clear hm hb4
  go_wp2
  exact bodyPost_ret (v:=.tuple #[.agg #[.slice a5 n5 c5],.int .i64 0]) (by simp [results,Tryz.results84,go_sem,hcx]) rfl ⟨Or.inl ⟨_,_,_,rfl,(unhide HM).setBox hX4 _⟩,(unhide HB4).setCell (Nat.le_add_right _ 1) _⟩
 ·have HM:=hide hm
  clear hm hb4
  go_wp2
  exact bodyPost_ret (v:=.tuple #[.agg #[.slice none 0 0],.int .i64 4]) (by simp [results,Tryz.results84,go_sem,hcx]) rfl ⟨Or.inr ⟨rfl,unhide HM⟩,(unhide HB4).setCell (Nat.le_add_right _ 1) _⟩
theorem bl_ex (m:Nat):∃ j,Bl m j:=by
 induction m using Nat.strongRecOn with
 | ind m ih=>
  by_cases h:m = 0
  ·exact ⟨0,by subst h; exact bl_zero⟩
  ·obtain ⟨j,h1,h2⟩:=ih (m / 2) (by omega)
   refine ⟨j+1,by rw [Nat.pow_succ]; omega,Or.inr ?_⟩
   rw [Nat.add_sub_cancel]
   rcases h2 with h2|h2
   ·subst h2; simp; omega
   ·by_cases hj:j = 0
    ·subst hj; simp; omega
    ·have:2 ^ j = 2 ^ (j - 1) * 2:=by rw [← Nat.pow_succ]; congr 1; omega
     omega
theorem up_any (a:Option Addr) (n cap m k:Nat) (w:World) (h:Num w a n m) (hk:k < 9223372036854775808) :
  Calls Tryz.prog 84 #[.agg #[.slice a n cap],.int .i64 (k:Int)] w fun e w'=>Ans w' w.heap.size e (m * 2 ^ k)∧Below w.heap.size w w':=by
 by_cases hm:m = 0
 ·subst hm
  obtain rfl:=h.zero.2 rfl
  refine (up_zero a cap k w).mono ?_
  rintro e w' ⟨rfl,hb⟩
  rw [Nat.zero_mul]
  exact ⟨Or.inl ⟨none,0,0,rfl,[],rfl,Or.inl ⟨rfl,rfl⟩,Pl.wf_nil,Pl.norm_nil,rfl,by omega⟩,hb⟩
 ·obtain ⟨j,hj⟩:=bl_ex m
  by_cases hkj:k+j≤524288
  ·exact up_in a n cap m k j w h (by omega) hj hkj
  ·refine (up_over a n cap m k j w h (by omega) hj (by omega) hk).mono ?_
   rintro e w' ⟨rfl,hb⟩
   refine ⟨Or.inr ⟨rfl,⟨?_⟩⟩,hb⟩
   have hj0:j≠0:=fun e=>by subst e; have:=hj.1; simp at this; omega
   have h2:=hj.2.resolve_left hj0
   rw [pow32]
   have h3:2 ^ (32 * Pl.top)≤2 ^ (j - 1+k):=Nat.pow_le_pow_right (by decide) (by rw [Pl.top_eq]; omega)
   rw [Nat.pow_add] at h3
   exact Nat.le_trans h3 (Nat.mul_le_mul_right _ h2)
theorem down_any (a:Option Addr) (n cap m k:Nat) (w:World) (h:Num w a n m) (hcap:n≤cap) (hcap2:cap≤9223372036854775807) (hk:k < 9223372036854775808) :
  Calls Tryz.prog 101 #[.agg #[.slice a n cap],.int .i64 (k:Int)] w fun e w'=>(∃ a' n' c',e = .returned (.tuple #[.agg #[.slice a' n' c'],.int .i64 0])∧Mine w' w.heap.size a' n' c' (m / 2 ^ k))∧Below w.heap.size w w':=by
 have HS:=hide (fun w1 h=>shiftDown_any a n cap m k w1 h hcap hcap2 hk)
 have HK:=hide (fun (o1 o2:Obj)=>check_num a n cap m ((w.alloc o1).alloc o2) ((h.alloc o1).alloc o2))
 have H:=hide h
 clear h hcap hcap2
 go_enter Tryz.func101,Tryz.ntmps101
 go_wp2_with fail
 refine (unhide HK _ _).mono ?_
 rintro e w1 ⟨rfl,hb1⟩
 have hbx:=((Box.made w (.slice a n cap)).alloc (.cells #[.slice none 0 0] 40)).kept hb1
 have hby:=(Box.made (w.alloc (.cells #[.slice a n cap] 40)) (.slice none 0 0)).kept hb1
 simp only [World.size_alloc] at hby
 have hcx:=hbx.cell
 have HB:=hide (gr_trans (gr_trans (gr_alloc w (.cells #[.slice a n cap] 40)) (gr_alloc _ (.cells #[.slice none 0 0] 40))) hb1)
 clear hb1 HK
 go_wp2_with fail
 refine (unhide HS _ ((unhide H).kept (unhide HB))).mono ?_
 rintro e w2 ⟨⟨a2,n2,c2,rfl,hm2⟩,hb2⟩
 have hX2:=hby.kept hb2
 have hcx:=hX2.cell
 have hfx:=hX2.frozen
 have HM:=hide (hm2.mono (unhide HB).size)
 have HB2:=hide (gr_trans (unhide HB) hb2)
 clear hm2 hb2
 go_wp2
 exact bodyPost_ret (v:=.tuple #[.agg #[.slice a2 n2 c2],.int .i64 0]) (by simp [results,Tryz.results101,go_sem,hcx]) rfl ⟨⟨_,_,_,rfl,(unhide HM).setBox hX2 _⟩,(unhide HB2).setCell (Nat.le_add_right _ 1) _⟩
theorem and_one_u32 (e:Nat) (h:e < 4294967296):Go.bits .and .u32 (e:Int) 1 = ((e % 2:Nat):Int):=by
 have h1:(BitVec.ofInt 32 (e:Int)).toNat = e:=by
  rw [BitVec.ofInt_natCast,BitVec.toNat_ofNat]; exact Nat.mod_eq_of_lt (by omega)
 show IntKind.u32.wrap ((BitVec.ofInt 32 (e:Int) &&& BitVec.ofInt 32 1).toNat:Int) = _
 rw [BitVec.toNat_and,h1,show (BitVec.ofInt 32 1).toNat = 1 from rfl,Nat.and_one_is_mod,IntKind.wrap_u32]
 omega
theorem ret_pair {a b:Bool} {v:Value} (h:a = b):Ending.returned (.tuple #[.bool a,v]) = .returned (.tuple #[.bool b,v]):=by rw [h]
theorem beq_one (z:Nat):(((z % 2:Nat):Int) == 1) = decide (z % 2 = 1):=by
 rw [Bool.eq_iff_iff,beq_iff_eq,decide_eq_true_eq]
 omega
theorem bit_row {xs:List Nat} (hw:Pl.Wf xs) (k:Nat):Pl.val xs / 2 ^ k % 2 = xs[k / 32]?.getD 0 / 2 ^ (k % 32) % 2:=by
 have e:2 ^ k = 4294967296 ^ (k / 32) * 2 ^ (k % 32):=by
  rw [show (4294967296:Nat) = 2 ^ 32 from rfl,← Nat.pow_mul,← Nat.pow_add]
  congr 1; omega
 have hd:Pl.val xs / 4294967296 ^ (k / 32) = Pl.val (xs.drop (k / 32)):=by
  by_cases h:k / 32≤xs.length
  ·have hlo:=Pl.val_lt (Pl.wf_take hw (k / 32))
   rw [List.length_take,Nat.min_eq_left h] at hlo
   rw [Pl.val_split xs (k / 32) h,Nat.add_comm,Nat.mul_add_div (Nat.lt_of_le_of_lt (Nat.zero_le _) hlo),Nat.div_eq_of_lt hlo,Nat.add_zero]
  ·have h1:=Pl.val_lt hw
   have h2:=Pl.pow_le (show xs.length≤k / 32 by omega)
   rw [List.drop_eq_nil_of_le (by omega),Nat.div_eq_of_lt (Nat.lt_of_lt_of_le h1 h2)]
   rfl
 rw [e,← Nat.div_div_eq_div_mul,hd,val_mod xs hw (k / 32)]
 generalize Pl.val (xs.drop (k / 32)) = V
 have hp:k % 32 < 32:=by omega
 generalize k % 32 = p at *
 have hs:=pow_split hp
 have hQ:2 ^ (32 - p) = 2 * 2 ^ (31 - p):=by rw [show 32 - p = (31 - p)+1 by omega,Nat.pow_succ,Nat.mul_comm]
 rw [hs,Nat.mod_mul_right_div_self,hQ,Nat.mod_mul_right_mod]
theorem bit_any (a:Option Addr) (n cap m k:Nat) (w:World) (h:Num w a n m) (hk:k < 9223372036854775808) :
  Calls Tryz.prog 93 #[.agg #[.slice a n cap],.int .i64 (k:Int)] w fun e w'=>e = .returned (.tuple #[.bool (decide (m / 2 ^ k % 2 = 1)),.int .i64 0])∧Below w.heap.size w w':=by
 have HK:=hide (fun (o1:Obj)=>check_num a n cap m (w.alloc o1) (h.alloc o1))
 obtain ⟨xs,hn,hl,hw,hN,hv,hb⟩:=h
 have hbr:=bit_row hw k
 rw [hv] at hbr
 have hq:(k:Int) / 32 = ((k / 32:Nat):Int):=by omega
 have hwk:k / 32 < 288230376151711744:=by omega
 obtain ⟨pt,hpt⟩:∃ pt,pt = k % 32:=⟨_,rfl⟩
 have hpk:pt < 32:=by omega
 have hr:(k:Int) % 32 = (pt:Int):=by omega
 rw [← hpt] at hbr
 have HP:=hide hpt.symm
 obtain ⟨wh,hwh⟩:∃ wh,wh = k / 32:=⟨_,rfl⟩
 rw [← hwh] at hq hbr hwk
 by_cases hlt:wh < n
 ·rcases hl.parts with hx|⟨hp,b,off,rfl,hltb,hc⟩
  ·rw [hx] at hn; simp at hn; omega
  ·obtain ⟨x,hxx⟩:∃ x,x = xs[wh]?.getD 0:=⟨_,rfl⟩
   have hx1:x < 4294967296:=by rw [hxx]; exact Pl.wf_at hw wh
   have hcx0:=hc wh (by omega)
   rw [← hxx] at hcx0 hbr
   have HBR:=hide hbr
   have hdl:¬ (n:Int)≤(wh:Int):=by omega
   clear hbr hc hxx hwh hn hv hN hl hpt
   go_enter Tryz.func93,Tryz.ntmps93
   go_wp2_with fail
   refine (unhide HK _).mono ?_
   rintro e w1 ⟨rfl,hb1⟩
   have hbx:=(Box.made w (.slice (some ⟨b,off,none⟩) n cap)).kept hb1
   have hcx:=hbx.cell
   have HB:=hide (gr_trans (gr_alloc w (.cells #[.slice (some ⟨b,off,none⟩) n cap] 40)) hb1)
   have hcx1:w1.cell? ⟨b,off+wh,none⟩ = some (.int .u32 (x:Int)):=((unhide HB).cell (by exact hltb)).trans hcx0
   clear hb1 HK hcx0
   go_wp2
   go_ret2
   refine ⟨ret_pair ?_,unhide HB⟩
   rw [show (x:Int) / 2 ^ pt = ((x / 2 ^ pt:Nat):Int) by rw [Int.natCast_ediv,Int.natCast_pow]; rfl,and_one_u32 _ (Nat.lt_of_le_of_lt (Nat.div_le_self _ _) hx1),unhide HBR,beq_one]
 ·have hbz:m / 2 ^ k % 2 = 0:=by
   rw [hbr,List.getElem?_eq_none (by omega)]
   simp
  have HBR:=hide hbz
  have hdl:(n:Int)≤(wh:Int):=by omega
  clear hbr hbz hwh hn hv hN hl hpt hlt
  go_enter Tryz.func93,Tryz.ntmps93
  go_wp2_with fail
  refine (unhide HK _).mono ?_
  rintro e w1 ⟨rfl,hb1⟩
  have hbx:=(Box.made w (.slice a n cap)).kept hb1
  have hcx:=hbx.cell
  have HB:=hide (gr_trans (gr_alloc w (.cells #[.slice a n cap] 40)) hb1)
  clear hb1 HK
  go_wp2
  go_ret2
  refine ⟨ret_pair ?_,unhide HB⟩
  rw [unhide HBR]
  rfl
def wst (W W1 W2 W3:World) (b6 b7 b10:Bool):World:=if b10 = true then W3 else if b7 = true then W2 else if b6 = true then W1 else W
structure RA (W W1 W2 W3:World) (p f:Nat) (vf val v':Value) (b0 b1 b2 b3 b4 b5 b6 b7 b8 b9 b10:Bool) (v0 v1 v2 v3 v4 v5 v6 v7 v8 v9:Value) (w':World):Prop where
 f0:b0 = true→v0 = .pointer (some ⟨p,0,none⟩)
 f1:b1 = true→v1 = .pointer (some ⟨p,0,none⟩)
 f2:b2 = true→v2 = .pointer (some ⟨p,0,none⟩)
 f3:b3 = true→v3 = .pointer (some ⟨p,f,none⟩)
 f4:b4 = true→v4 = vf
 f5:b5 = true→v5 = .agg #[val]
 f6:b6 = true→v6 = .slice (some ⟨W.heap.size,0,none⟩) 1 1
 f7:b7 = true→v7 = v'
 f8:b8 = true→v8 = .pointer (some ⟨p,0,none⟩)
 f9:b9 = true→v9 = .pointer (some ⟨p,f,none⟩)
 m7:b7 = true→b6 = true
 m9:b9 = true→b8 = true
 m10:b10 = true→b0 = true∧b1 = true∧b2 = true∧b3 = true∧b4 = true∧b5 = true∧b6 = true∧b7 = true∧b8 = true∧b9 = true
 st:w' = wst W W1 W2 W3 b6 b7 b10
theorem RA.cells {W W1 W2 W3:World} {p f pa:Nat} {vf val v':Value} {b0 b1 b2 b3 b4 b5 b6 b7 b8 b9 b10:Bool} {v0 v1 v2 v3 v4 v5 v6 v7 v8 v9:Value} {w':World} (h:RA W W1 W2 W3 p f vf val v' b0 b1 b2 b3 b4 b5 b6 b7 b8 b9 b10 v0 v1 v2 v3 v4 v5 v6 v7 v8 v9 w') (h10:b10 = false)
  (c0:W.cell? ⟨p,f,none⟩ = some vf∧W.cell? ⟨pa,0,none⟩ = some val) (c1:W1.cell? ⟨p,f,none⟩ = some vf∧W1.cell? ⟨pa,0,none⟩ = some val) (c2:W2.cell? ⟨p,f,none⟩ = some vf∧W2.cell? ⟨pa,0,none⟩ = some val) :
  w'.cell? ⟨p,f,none⟩ = some vf∧w'.cell? ⟨pa,0,none⟩ = some val:=by
 rw [h.st,h10]
 unfold wst
 simp only [Bool.false_eq_true,if_false]
 by_cases h7:b7 = true
 ·rw [if_pos h7]; exact c2
 ·rw [if_neg h7]
  by_cases h6:b6 = true
  ·rw [if_pos h6]; exact c1
  ·rw [if_neg h6]; exact c0
theorem own_form {w:World} {base n:Nat} {t:TypeId} {v:Value} {xs:List Value} (h:w.ownsRow base t 1 v n xs) (hn:0 < n):∃ g cap,v = .slice (some ⟨g,0,none⟩) n cap:=by
 obtain ⟨h1,h2|⟨g,cap,cur,e,_⟩⟩:=h
 ·omega
 ·exact ⟨g,cap,e⟩
structure Fr (w w':World) (p:Nat) (r1 r2:Option Nat):Prop where
 os:w'.os = w.os
 tape:w'.tape = w.tape
 output:w'.output = w.output
 size:w.heap.size≤w'.heap.size
 block:∀ k,k < w.heap.size→k≠p→some k≠r1→some k≠r2→w'.heap[k]? = w.heap[k]?
theorem Fr.grown {w W W2:World} {p:Nat} {r1 r2:Option Nat} {o:Obj} (h:Fr w W p r1 r2) (hg:(W.alloc o).grownBy W2 r1) (j:Nat) (u:Value):Fr w (W2.setCell ⟨p,j,none⟩ u) p r1 r2:=by
 refine ⟨hg.os.trans h.os,hg.tape.trans h.tape,hg.output.trans h.output,?_,fun k hk h1 h2 h3=>?_⟩
 ·have:=hg.size; have:=h.size; simp [World.setCell] at *; omega
 ·have hkW:=Nat.lt_of_lt_of_le hk h.size
  rw [heap_setCell_other W2 _ k u h1,hg.block k (by simp; omega) h2,(gr_alloc W o).block k hkW]
  exact h.block k hk h1 h2 h3
theorem Fr.drew {w w':World} {p:Nat} {r1 r2:Option Nat} (h:Fr w w' p r1 r2):Fr w w'.drew p r1 r2:=⟨h.os,h.tape,h.output,h.size,h.block⟩
theorem low_big (a:Option Addr) (n cap m:Nat) (w:World) (h:Num w a n m) (hn2:2 < n) :
  Calls Tryz.prog 97 #[.agg #[.slice a n cap]] w fun e w'=>e = .returned (.tuple #[.int .u64 0,.bool false])∧Below w.heap.size w w':=by
 have HK:=hide (fun (o1:Obj)=>check_num a n cap m (w.alloc o1) (h.alloc o1))
 clear h
 go_enter Tryz.func97,Tryz.ntmps97
 go_wp2_with fail
 refine (unhide HK _).mono ?_
 rintro e w1 ⟨rfl,hb1⟩
 obtain ⟨hc1,hf1⟩:=bcell hb1
 go_wp2
 go_ret2
 exact ⟨rfl,gr_trans (gr_alloc _ _) hb1⟩
end Go.Proofs.YtbgafednekomhaaGreatDoor
