/- Of what DigitsNamesRow stands on: UpOver UpDown Pow. -/
import Derived.Test.YtplihgoapiiigaaGreatDoorPaj
import Derived.Test.YtplihgoapiiigaaGreatDoorPaf
import Derived.Test.YtplihgoapiiigaaGreatDoorPai
namespace Go.Proofs.YtplihgoapiiigaaGreatDoor
open Go.RowKit
set_option maxHeartbeats 2000000
theorem up_over (a:Option Addr) (n cap m k j:Nat) (w:World) (h:Num w a n m) (hm:0 < m) (hj:Bl m j) (hk:524288 < k+j) (_hk2:k < 9223372036854775808) :
  Calls Tryz.prog 35 #[.agg #[.slice a n cap],.int .i64 (k:Int)] w fun e w'=>e = .returned (.tuple #[.agg #[.slice none 0 0],.int .i64 4])∧Below w.heap.size w w':=by
 have H:=hide h
 have hz:=h.zero
 have hn0:((n:Int) == 0) = false:=by simp; omega
 obtain ⟨xs,hn,hl,hw,hN,hv,hb⟩:=h
 have hck:=fun (o1 o2:Obj)=>check_any a cap xs ((w.alloc o1).alloc o2) (by omega) ((hl.alloc _).alloc _)
 rw [hn,chk_ok (by omega) hN] at hck
 have HK:=hide hck
 have HJ:=hide hj
 clear hck hl hn hv hz hj
 go_enter Tryz.func35,Tryz.ntmps35
 go_wp2_with fail
 refine (unhide HK _ _).mono ?_
 rintro e w1 ⟨rfl,hb1⟩
 have hbx:=((Box.made w (.slice a n cap)).alloc (.cells #[.slice none 0 0] 42)).kept hb1
 have hby:=(Box.made (w.alloc (.cells #[.slice a n cap] 42)) (.slice none 0 0)).kept hb1
 simp only [World.size_alloc] at hby
 have hcx:=hbx.cell
 have hcy:=hby.cell
 have hfy:=hby.frozen
 have HB:=hide (gr_trans (gr_trans (gr_alloc w (.cells #[.slice a n cap] 42)) (gr_alloc _ (.cells #[.slice none 0 0] 42))) hb1)
 clear hb1 HK
 go_wp2_with fail
 refine (bitLength_any a n cap m w1 ((unhide H).kept (unhide HB))).mono ?_
 rintro e w2 ⟨⟨j2,rfl,hB2,hle⟩,rfl⟩
 obtain rfl:j2 = j:=hB2.uniq (unhide HJ)
 clear hB2
 have hgt:(524288:Int) - (j2:Int) < (k:Int):=by omega
 clear hk
 go_wp2
 exact bodyPost_ret (v:=.tuple #[.agg #[.slice none 0 0],.int .i64 4]) (by simp [results,Tryz.results35,go_sem,hcy]) rfl ⟨rfl,(unhide HB).setCell (by simp) _⟩
theorem check_num (a:Option Addr) (n cap m:Nat) (w:World) (h:Num w a n m) :
  Calls Tryz.prog 68 #[.agg #[.slice a n cap]] w fun e w'=>e = .returned (.int .i64 0)∧Below w.heap.size w w':=by
 obtain ⟨xs,hn,hl,hw,hN,hv,hb⟩:=h
 have:=check_any a cap xs w (by omega) hl
 rw [hn,chk_ok (by omega) hN] at this
 exact this
theorem Mine.cap {w:World} {base:Nat} {a:Option Addr} {n cap m:Nat} (h:Mine w base a n cap m):n≤cap∧cap≤9223372036854775807:=by
 obtain ⟨xs,hn,ho,_⟩:=h
 obtain ⟨a',c',e,h1,h2,_⟩:=ho.lim
 injection e with e1 e2 e3
 omega
theorem up_zero (a:Option Addr) (cap k:Nat) (w:World) :
  Calls Tryz.prog 35 #[.agg #[.slice a 0 cap],.int .i64 (k:Int)] w fun e w'=>e = .returned (.tuple #[.agg #[.slice none 0 0],.int .i64 0])∧Below w.heap.size w w':=by
 have HK:=hide (fun (o1 o2:Obj)=>check_num a 0 cap 0 ((w.alloc o1).alloc o2) ⟨[],rfl,Or.inl rfl,Pl.wf_nil,Pl.norm_nil,rfl,by omega⟩)
 go_enter Tryz.func35,Tryz.ntmps35
 go_wp2_with fail
 refine (unhide HK _ _).mono ?_
 rintro e w1 ⟨rfl,hb1⟩
 have hbx:=((Box.made w (.slice a 0 cap)).alloc (.cells #[.slice none 0 0] 42)).kept hb1
 have hby:=(Box.made (w.alloc (.cells #[.slice a 0 cap] 42)) (.slice none 0 0)).kept hb1
 simp only [World.size_alloc] at hby
 have hcx:=hbx.cell
 have hcy:=hby.cell
 have hfy:=hby.frozen
 have HB:=hide (gr_trans (gr_trans (gr_alloc w (.cells #[.slice a 0 cap] 42)) (gr_alloc _ (.cells #[.slice none 0 0] 42))) hb1)
 clear hb1 HK
 go_wp2
 exact bodyPost_ret (v:=.tuple #[.agg #[.slice none 0 0],.int .i64 0]) (by simp [results,Tryz.results35,go_sem,hcy]) rfl ⟨rfl,(unhide HB).setCell (by simp) _⟩
theorem up_in (a:Option Addr) (n cap m k j:Nat) (w:World) (h:Num w a n m) (hm:0 < m) (hj:Bl m j) (hk:k+j≤524288) :
  Calls Tryz.prog 35 #[.agg #[.slice a n cap],.int .i64 (k:Int)] w fun e w'=>Ans w' w.heap.size e (m * 2 ^ k)∧Below w.heap.size w w':=by
 have H:=hide h
 have hz:=h.zero
 have hn0:((n:Int) == 0) = false:=by simp; omega
 have HK:=hide (fun (o1 o2:Obj)=>check_num a n cap m ((w.alloc o1).alloc o2) ((h.alloc o1).alloc o2))
 have hnb:=h.len
 have HJ:=hide hj
 have hk2:k≤524288:=by omega
 clear hz hj h
 go_enter Tryz.func35,Tryz.ntmps35
 go_wp2_with fail
 refine (unhide HK _ _).mono ?_
 rintro e w1 ⟨rfl,hb1⟩
 have hbx:=((Box.made w (.slice a n cap)).alloc (.cells #[.slice none 0 0] 42)).kept hb1
 have hby:=(Box.made (w.alloc (.cells #[.slice a n cap] 42)) (.slice none 0 0)).kept hb1
 simp only [World.size_alloc] at hby
 have hcx:=hbx.cell
 have HB:=hide (gr_trans (gr_trans (gr_alloc w (.cells #[.slice a n cap] 42)) (gr_alloc _ (.cells #[.slice none 0 0] 42))) hb1)
 clear hb1 HK
 go_wp2_with fail
 refine (bitLength_any a n cap m w1 ((unhide H).kept (unhide HB))).mono ?_
 rintro e w2 ⟨⟨j2,rfl,hB2,hle⟩,rfl⟩
 obtain rfl:j2 = j:=hB2.uniq (unhide HJ)
 have hgt:¬ (524288:Int) - (j2:Int) < (k:Int):=by omega
 have HKJ:=hide hk
 clear hk hB2
 go_wp2_with fail
 have hN1:=(unhide H).kept (unhide HB)
 obtain ⟨xs,hn,hl,hw,hN,hv,hb⟩:=hN1
 refine (shiftUp_any a n cap (k / 32) (k % 32) k xs w1 hn (by omega) hl hw (by omega) (by omega) (by omega)).mono ?_
 rintro e w3 ⟨out,rfl,hol,how,hov,hr3,hb3⟩
 rw [hv] at hov
 have hby3:=hby.kept hb3
 have HB3:=hide (gr_trans (unhide HB) hb3)
 have HV:=hide hov
 have hs1:=(unhide HB).size
 have hwl:k / 32≤16384:=by omega
 generalize k / 32 = wh at *
 clear hov hb3 hl hn hv hw hN hcx hbx
 go_wp2_with fail
 refine (limited_at w1.heap.size w.heap.size (wh+n+1) (wh+n+1) out w3 hol hr3 hs1 (Nat.le_refl _) (by omega) how).mono ?_
 rintro e w4 ⟨hans,hb4⟩
 rw [unhide HV] at hans
 have hX4:=hby3.kept hb4
 have hcx:=hX4.cell
 have hfx:=hX4.frozen
 have HB4:=hide (gr_trans (unhide HB3) hb4)
 rcases hans with ⟨a5,n5,c5,rfl,hm⟩|⟨rfl,hm⟩
 ·have HM:=hide hm
  clear hm hb4
  go_wp2
  exact bodyPost_ret (v:=.tuple #[.agg #[.slice a5 n5 c5],.int .i64 0]) (by simp [results,Tryz.results35,go_sem,hcx]) rfl ⟨Or.inl ⟨_,_,_,rfl,(unhide HM).setBox hX4 _⟩,(unhide HB4).setCell (Nat.le_add_right _ 1) _⟩
 ·have HM:=hide hm
  clear hm hb4
  go_wp2
  exact bodyPost_ret (v:=.tuple #[.agg #[.slice none 0 0],.int .i64 4]) (by simp [results,Tryz.results35,go_sem,hcx]) rfl ⟨Or.inr ⟨rfl,unhide HM⟩,(unhide HB4).setCell (Nat.le_add_right _ 1) _⟩
theorem bl_ex (m:Nat):∃ j,Bl m j:=by
 induction m using Nat.strongRecOn with
 | ind m ih=>
  by_cases h:m = 0
  ·exact ⟨0,by subst h; exact bl_zero⟩
  ·obtain ⟨j,h1,h2⟩:=ih (m / 2) (by omega)
   refine ⟨j+1,by rw [Nat.pow_succ]; omega,Or.inr ?_⟩
   rw [Nat.add_sub_cancel]
   rcases h2 with h2|h2
   ·subst h2; simp; omega
   ·by_cases hj:j = 0
    ·subst hj; simp; omega
    ·have:2 ^ j = 2 ^ (j - 1) * 2:=by rw [← Nat.pow_succ]; congr 1; omega
     omega
theorem up_any (a:Option Addr) (n cap m k:Nat) (w:World) (h:Num w a n m) (hk:k < 9223372036854775808) :
  Calls Tryz.prog 35 #[.agg #[.slice a n cap],.int .i64 (k:Int)] w fun e w'=>Ans w' w.heap.size e (m * 2 ^ k)∧Below w.heap.size w w':=by
 by_cases hm:m = 0
 ·subst hm
  obtain rfl:=h.zero.2 rfl
  refine (up_zero a cap k w).mono ?_
  rintro e w' ⟨rfl,hb⟩
  rw [Nat.zero_mul]
  exact ⟨Or.inl ⟨none,0,0,rfl,[],rfl,Or.inl ⟨rfl,rfl⟩,Pl.wf_nil,Pl.norm_nil,rfl,by omega⟩,hb⟩
 ·obtain ⟨j,hj⟩:=bl_ex m
  by_cases hkj:k+j≤524288
  ·exact up_in a n cap m k j w h (by omega) hj hkj
  ·refine (up_over a n cap m k j w h (by omega) hj (by omega) hk).mono ?_
   rintro e w' ⟨rfl,hb⟩
   refine ⟨Or.inr ⟨rfl,⟨?_⟩⟩,hb⟩
   have hj0:j≠0:=fun e=>by subst e; have:=hj.1; simp at this; omega
   have h2:=hj.2.resolve_left hj0
   rw [pow32]
   have h3:2 ^ (32 * Pl.top)≤2 ^ (j - 1+k):=Nat.pow_le_pow_right (by decide) (by rw [Pl.top_eq]; omega)
   rw [Nat.pow_add] at h3
   exact Nat.le_trans h3 (Nat.mul_le_mul_right _ h2)
theorem down_any (a:Option Addr) (n cap m k:Nat) (w:World) (h:Num w a n m) (hcap:n≤cap) (hcap2:cap≤9223372036854775807) (hk:k < 9223372036854775808) :
  Calls Tryz.prog 93 #[.agg #[.slice a n cap],.int .i64 (k:Int)] w fun e w'=>(∃ a' n' c',e = .returned (.tuple #[.agg #[.slice a' n' c'],.int .i64 0])∧Mine w' w.heap.size a' n' c' (m / 2 ^ k))∧Below w.heap.size w w':=by
 have HS:=hide (fun w1 h=>shiftDown_any a n cap m k w1 h hcap hcap2 hk)
 have HK:=hide (fun (o1 o2:Obj)=>check_num a n cap m ((w.alloc o1).alloc o2) ((h.alloc o1).alloc o2))
 have H:=hide h
 clear h hcap hcap2
 go_enter Tryz.func93,Tryz.ntmps93
 go_wp2_with fail
 refine (unhide HK _ _).mono ?_
 rintro e w1 ⟨rfl,hb1⟩
 have hbx:=((Box.made w (.slice a n cap)).alloc (.cells #[.slice none 0 0] 42)).kept hb1
 have hby:=(Box.made (w.alloc (.cells #[.slice a n cap] 42)) (.slice none 0 0)).kept hb1
 simp only [World.size_alloc] at hby
 have hcx:=hbx.cell
 have HB:=hide (gr_trans (gr_trans (gr_alloc w (.cells #[.slice a n cap] 42)) (gr_alloc _ (.cells #[.slice none 0 0] 42))) hb1)
 clear hb1 HK
 go_wp2_with fail
 refine (unhide HS _ ((unhide H).kept (unhide HB))).mono ?_
 rintro e w2 ⟨⟨a2,n2,c2,rfl,hm2⟩,hb2⟩
 have hX2:=hby.kept hb2
 have hcx:=hX2.cell
 have hfx:=hX2.frozen
 have HM:=hide (hm2.mono (unhide HB).size)
 have HB2:=hide (gr_trans (unhide HB) hb2)
 clear hm2 hb2
 go_wp2
 exact bodyPost_ret (v:=.tuple #[.agg #[.slice a2 n2 c2],.int .i64 0]) (by simp [results,Tryz.results93,go_sem,hcx]) rfl ⟨⟨_,_,_,rfl,(unhide HM).setBox hX2 _⟩,(unhide HB2).setCell (Nat.le_add_right _ 1) _⟩
theorem and_one_u32 (e:Nat) (h:e < 4294967296):Go.bits .and .u32 (e:Int) 1 = ((e % 2:Nat):Int):=by
 have h1:(BitVec.ofInt 32 (e:Int)).toNat = e:=by
  rw [BitVec.ofInt_natCast,BitVec.toNat_ofNat]; exact Nat.mod_eq_of_lt (by omega)
 show IntKind.u32.wrap ((BitVec.ofInt 32 (e:Int) &&& BitVec.ofInt 32 1).toNat:Int) = _
 rw [BitVec.toNat_and,h1,show (BitVec.ofInt 32 1).toNat = 1 from rfl,Nat.and_one_is_mod,IntKind.wrap_u32]
 omega
theorem half_even (n j:Nat) (h:n / 2 ^ j % 2 = 0):n / 2 ^ (j+1)+n / 2 ^ (j+1) = n / 2 ^ j:=by
 rw [Nat.pow_succ,← Nat.div_div_eq_div_mul]; omega
theorem half_odd (n j:Nat) (h:¬ n / 2 ^ j % 2 = 0):n / 2 ^ (j+1)+n / 2 ^ (j+1)+1 = n / 2 ^ j:=by
 rw [Nat.pow_succ,← Nat.div_div_eq_div_mul]; omega
theorem pow_odd (m a:Nat):m ^ a * m ^ a * m = m ^ (a+a+1):=by rw [Nat.pow_succ,Nat.pow_add]
theorem div_pow_le (n j:Nat):n / 2 ^ j≤n:=Nat.div_le_self _ _
theorem over_mono {m a b:Nat} (hm:1≤m) (h:a≤b) (hL:Over (m ^ a)):Over (m ^ b):=⟨Nat.le_trans hL.le (Nat.pow_le_pow_right hm h)⟩
theorem powerOf_any (a:Option Addr) (l cap m n:Nat) (w:World) (h:Num w a l m) (hm:1≤m) (hn:n≤1073741824) :
  Calls Tryz.prog 64 #[.agg #[.slice a l cap],.int .i64 (n:Int)] w fun e w'=>Ans w' w.heap.size e (m ^ n)∧Below w.heap.size w w':=by
 go_enter Tryz.func64,Tryz.ntmps64
 go_wp2_with fail
 refine (of_any 1 _ (by omega)).mono ?_
 rintro e w1 ⟨⟨a1,n1,c1,rfl,h1⟩,hb1⟩
 obtain ⟨hc1,hf1⟩:=bcell hb1
 go_wp2_with fail
 refine (len_any n _ (by omega)).mono ?_
 rintro e w2 ⟨rfl,rfl⟩
 have hle:Lib.bitLen n≤31:=Lib.bitLen_le n 31 (by decide) (by omega)
 go_wp2_with fail
 have hs1:w.heap.size+1 < w1.heap.size:=by have:=hb1.size; simp at this; omega
 have hB0:=hide (gr_trans (gr_trans (gr_trans (gr_alloc _ _) (gr_alloc _ _)) hb1) (gr_alloc w1 (.cells #[.slice a1 n1 c1] 42)))
 have hq0:=hide ((((Box.made w (.slice a l cap)).alloc (.cells #[.slice none 0 0] 42)).kept hb1).alloc (.cells #[.slice a1 n1 c1] 42))
 have hr0:=hide (((Box.made (w.alloc (.cells #[.slice a l cap] 42)) (.slice none 0 0)).kept hb1).alloc (.cells #[.slice a1 n1 c1] 42))
 have hm0:=hide ((h1.mono (show w.heap.size≤_ by simp; omega)).alloc (.cells #[.slice a1 n1 c1] 42))
 have hn0:=hide ((((h.alloc _).alloc _).kept hb1).alloc (.cells #[.slice a1 n1 c1] 42))
 clear h h1 hb1 hc1 hf1
 go_loopw [7] (fun t wr=>∃ (k:Nat) (ap:Option Addr) (np cp:Nat),k≤31∧t = .int .i64 ((k:Int) - 1)∧Box wr w1.heap.size (.slice ap np cp)∧Mine wr w.heap.size ap np cp (m ^ (n / 2 ^ k)) ∧
   Box wr w.heap.size (.slice a l cap)∧Box wr (w.heap.size+1) (.slice none 0 0)∧Num wr a l m∧Below w.heap.size w wr) (fun t _=>(intOf t+1).toNat)
 case atStart=>
  have hz:n / 2 ^ Lib.bitLen n = 0:=Nat.div_eq_of_lt (bl_bitLen 64 n (by omega) (by omega)).1
  refine ⟨Lib.bitLen n,a1,n1,c1,hle,rfl,Box.made _ _,?_,unhide hq0,?_,unhide hn0,unhide hB0⟩
  ·rw [hz]; exact unhide hm0
  ·have:=unhide hr0; simpa using this
 case round=>
  obtain ⟨k,ap,np,cp,hk,rfl,hbp,hmp,hbq,hbr,hnb,hbel⟩:=hrel
  have hcp:=hbp.cell
  have hfp:=hbp.frozen
  have hcq:=hbq.cell
  have hcr:=hbr.cell
  have hfr:=hbr.frozen
  by_cases hk0:k = 0
  ·subst hk0
   have HM:=hide hmp
   have HB:=hide hbel
   clear hmp hbel
   go_wp2
   have hM:=unhide HM
   rw [Nat.pow_zero,Nat.div_one] at hM
   exact bodyPost_ret (v:=.tuple #[.agg #[.slice ap np cp],.int .i64 0]) (by simp [results,Tryz.results64,go_sem,hcr]) rfl ⟨Or.inl ⟨_,_,_,rfl,hM.setBox hbr _⟩,(unhide HB).setCell (by simp) _⟩
  ·obtain ⟨j,rfl⟩:∃ j,k = j+1:=⟨k - 1,by omega⟩
   have hnp:=hmp.num
   go_wp2_with fail
   refine (mul_any ap ap np np cp cp _ _ wr hnp hnp).mono ?_
   rintro e w2 ⟨hans,hb2⟩
   have hs2:w1.heap.size < w2.heap.size:=Nat.lt_of_lt_of_le hbp.lt hb2.size
   have hs3:w.heap.size+1 < w2.heap.size:=by omega
   have hbp2:=hbp.kept hb2
   have hbq2:=hbq.kept hb2
   have hbr2:=hbr.kept hb2
   have hcp2:=hbp2.cell
   have hfp2:=hbp2.frozen
   have hcq2:=hbq2.cell
   have hcr2:=hbr2.cell
   have hfr2:=hbr2.frozen
   rcases hans with ⟨a2,n2,c2,rfl,hm2⟩|⟨rfl,hbig⟩
   ·have HB:=hide (gr_trans hbel hb2)
    have HM:=hide hm2
    have HN:=hide (hnb.kept hb2)
    have hm2':=(hm2.mono (show w.heap.size≤wr.heap.size from hbel.size))
    have HM2:=hide hm2'
    have HBq3:=hide ((hbq2.other (a:=⟨w1.heap.size,0,none⟩) (show w.heap.size≠w1.heap.size by omega) (.slice a2 n2 c2)).alloc (.cells #[.slice a2 n2 c2] 42))
    have HBr3:=hide ((hbr2.other (a:=⟨w1.heap.size,0,none⟩) (show w.heap.size+1≠w1.heap.size by omega) (.slice a2 n2 c2)).alloc (.cells #[.slice a2 n2 c2] 42))
    have HBp3:=hide ((hbp2.set (.slice a2 n2 c2)).alloc (.cells #[.slice a2 n2 c2] 42))
    have HM3:=hide ((hm2'.setBox hbp2 (.slice a2 n2 c2)).alloc (.cells #[.slice a2 n2 c2] 42))
    have HN3:=hide (((hnb.kept hb2).setBox hbp2 (.slice a2 n2 c2)).alloc (.cells #[.slice a2 n2 c2] 42))
    have HB3:=hide (((gr_trans hbel hb2).setCell (p:=⟨w1.heap.size,0,none⟩) (show w.heap.size≤w1.heap.size by omega) (.slice a2 n2 c2)).alloc (show w.heap.size≤(w2.setCell ⟨w1.heap.size,0,none⟩ (.slice a2 n2 c2)).heap.size by have:=hbp2.lt; simp; omega) (.cells #[.slice a2 n2 c2] 42))
    have hcq3:=(unhide HBq3).cell
    clear hbel hb2 hm2 hm2' hnb hmp hnp hbp hbq hbr hcp hfp hcq hcr hfr
    by_cases hpar:n / 2 ^ j % 2 = 0
    ·have hbit:(Go.bits BinOp.and IntKind.i64 ((n:Int) / 2 ^ j) 1 == 0) = true:=by
      have e:(n:Int) / 2 ^ j = ((n / 2 ^ j:Nat):Int):=by simp
      rw [e,and_one_i64 _ (Nat.lt_of_le_of_lt (div_pow_le n j) (by omega)),hpar]; rfl
     have HP:=hide hpar
     clear hpar
     go_wp2
     go_roundw
     case rel=>
      refine ⟨j,a2,n2,c2,by omega,rfl,unhide HBp3,?_,unhide HBq3,unhide HBr3,unhide HN3,unhide HB3⟩
      have:=unhide HM3
      rwa [← Nat.pow_add,half_even n j (unhide HP)] at this
     case measure=>simp [intOf]
    ·have hbit:(Go.bits BinOp.and IntKind.i64 ((n:Int) / 2 ^ j) 1 == 0) = false:=by
      have e:(n:Int) / 2 ^ j = ((n / 2 ^ j:Nat):Int):=by simp
      rw [e,and_one_i64 _ (Nat.lt_of_le_of_lt (div_pow_le n j) (by omega))]; simp; omega
     have HP:=hide hpar
     clear hpar
     go_wp2_with fail
     refine (mul_any a2 a n2 l c2 cap _ _ _ (unhide HM3).num (unhide HN3)).mono ?_
     rintro e w4 ⟨hans,hb4⟩
     have hbp4:=(unhide HBp3).kept hb4
     have hbq4:=(unhide HBq3).kept hb4
     have hbr4:=(unhide HBr3).kept hb4
     have HB4:=hide (gr_trans (unhide HB3) hb4)
     have HN4:=hide ((unhide HN3).kept hb4)
     have hcp4:=hbp4.cell
     have hfp4:=hbp4.frozen
     have hcr4:=hbr4.cell
     have hfr4:=hbr4.frozen
     rcases hans with ⟨a5,n5,c5,rfl,hm5⟩|⟨rfl,hbig⟩
     ·have hm5':=hm5.mono (show w.heap.size≤_ from (unhide HB3).size)
      have HM5:=hide (hm5'.setBox hbp4 (.slice a5 n5 c5))
      have HBp5:=hide (hbp4.set (.slice a5 n5 c5))
      have HBq5:=hide (hbq4.other (a:=⟨w1.heap.size,0,none⟩) (show w.heap.size≠w1.heap.size by omega) (.slice a5 n5 c5))
      have HBr5:=hide (hbr4.other (a:=⟨w1.heap.size,0,none⟩) (show w.heap.size+1≠w1.heap.size by omega) (.slice a5 n5 c5))
      have HN5:=hide ((unhide HN4).setBox hbp4 (.slice a5 n5 c5))
      have HB5:=hide ((unhide HB4).setCell (p:=⟨w1.heap.size,0,none⟩) (show w.heap.size≤w1.heap.size by omega) (.slice a5 n5 c5))
      clear hm5 hm5' hb4
      go_wp2
      go_roundw
      case rel=>
       refine ⟨j,a5,n5,c5,by omega,rfl,unhide HBp5,?_,unhide HBq5,unhide HBr5,unhide HN5,unhide HB5⟩
       have:=unhide HM5
       rwa [pow_odd,half_odd n j (unhide HP)] at this
      case measure=>simp [intOf]
     ·have HO:=hide hbig
      clear hbig hb4
      go_wp2
      refine bodyPost_ret (v:=.tuple #[.agg #[.slice none 0 0],.int .i64 4]) (by simp [results,Tryz.results64,go_sem,hcr4]) rfl ⟨Or.inr ⟨rfl,?_⟩,((unhide HB4).setCell (p:=⟨w1.heap.size,0,none⟩) (show w.heap.size≤w1.heap.size by omega) _).setCell (by simp) _⟩
      have:=unhide HO
      rw [pow_odd,half_odd n j (unhide HP)] at this
      exact over_mono hm (div_pow_le n j) this
   ·have HB:=hide (gr_trans hbel hb2)
    have HM:=hide hbig
    clear hbel hb2 hbig hnb hmp hnp hbp hbq hbr hcp hfp hcq hcr hfr
    go_wp2
    refine bodyPost_ret (v:=.tuple #[.agg #[.slice none 0 0],.int .i64 4]) (by simp [results,Tryz.results64,go_sem,((hbr2.set (.slice none 0 0)).alloc (.cells #[.slice none 0 0] 42)).cell]) rfl ⟨Or.inr ⟨rfl,?_⟩,gr_trans ((unhide HB).setCell (p:=⟨w.heap.size+1,0,none⟩) (by simp) _) (gr_alloc _ _)⟩
    have:=unhide HM
    rw [← Nat.pow_add] at this
    refine over_mono hm ?_ this
    have h1:=div_pow_le n j
    have h2:n / 2 ^ (j+1) = n / 2 ^ j / 2:=by rw [Nat.pow_succ,← Nat.div_div_eq_div_mul]
    omega
theorem two_pow_over {b n:Nat} (hb:2≤b) (hn:524288≤n):Over (b ^ n):=by
 constructor
 have h:32 * Pl.top≤n:=by rw [Pl.top_eq]; omega
 rw [pow32]
 exact Nat.le_trans (Nat.pow_le_pow_right (by decide) h) (Nat.pow_le_pow_left hb n)
theorem pow_any (b n:Nat) (w:World) (hb:b < 4294967296) (hn:n < 9223372036854775808) :
  Calls Tryz.prog 33 #[.int .u32 (b:Int),.int .i64 (n:Int)] w fun e w'=>Ans w' w.heap.size e (b ^ n)∧Below w.heap.size w w':=by
 by_cases h1:n = 0∨b = 1
 ·have hv:b ^ n = 1:=by rcases h1 with rfl|rfl <;> simp
  rw [hv]
  have hd:((n:Int) == 0) = true∨((n:Int) == 0) = false∧((b:Int) == 1) = true:=by
   rcases h1 with h|h
   ·left; simp [h]
   ·by_cases hn:n = 0
    ·left; simp [hn]
    ·right; simp [h,hn]
  clear h1 hv
  rcases hd with hd|⟨hd,hd2⟩
  all_goals
   go_enter Tryz.func33,Tryz.ntmps33
   go_wp2_with fail
   refine (of_any 1 _ (by omega)).mono ?_
   rintro e w1 ⟨⟨a1,n1,c1,rfl,hm⟩,hb1⟩
   have hbx:=(Box.made w (.slice none 0 0)).kept hb1
   have hc1:=hbx.cell
   have hf1:=hbx.frozen
   go_wp2
   exact bodyPost_ret (v:=.tuple #[.agg #[.slice a1 n1 c1],.int .i64 0]) (by simp [results,Tryz.results33,go_sem,hc1]) rfl ⟨Or.inl ⟨_,_,_,rfl,(hm.mono (by simp)).setBox hbx _⟩,(gr_trans (gr_alloc _ _) hb1).setCell (by simp) _⟩
 ·have hn0:((n:Int) == 0) = false:=by simp; omega
  have hb1:((b:Int) == 1) = false:=by simp; omega
  by_cases hb0:b = 0
  ·subst hb0
   have hv:0 ^ n = 0:=Nat.zero_pow (by omega)
   rw [hv]
   clear hv h1
   go_enter Tryz.func33,Tryz.ntmps33
   go_wp2
   exact bodyPost_ret (v:=.tuple #[.agg #[.slice none 0 0],.int .i64 0]) (by simp [results,Tryz.results33,go_sem]) rfl ⟨Or.inl ⟨_,_,_,rfl,mine_nil _ _⟩,gr_alloc _ _⟩
  ·have hb0':((b:Int) == 0) = false:=by simp; omega
   by_cases hbig:524288≤n
   ·have hO:=two_pow_over (b:=b) (by omega) hbig
    have HO:=hide hO
    have hbigI:(524288:Int)≤(n:Int):=by omega
    clear hO h1 hbig
    go_enter Tryz.func33,Tryz.ntmps33
    go_wp2
    exact bodyPost_ret (v:=.tuple #[.agg #[.slice none 0 0],.int .i64 4]) (by simp [results,Tryz.results33,go_sem]) rfl ⟨Or.inr ⟨rfl,unhide HO⟩,gr_alloc _ _⟩
   ·have hbigI:¬ (524288:Int)≤(n:Int):=by omega
    clear h1 hbig
    go_enter Tryz.func33,Tryz.ntmps33
    go_wp2_with fail
    refine (of_any b _ (by omega)).mono ?_
    rintro e w1 ⟨⟨a1,n1,c1,rfl,hm⟩,hw1⟩
    have HX:=hide ((Box.made w (.slice none 0 0)).kept hw1)
    have HM:=hide hm
    have HB:=hide (gr_trans (gr_alloc w (.cells #[.slice none 0 0] 42)) hw1)
    clear hm hw1
    go_wp2_with fail
    refine (powerOf_any a1 n1 c1 b n _ (unhide HM).num (by omega) (by omega)).mono ?_
    rintro e w2 ⟨hans,hw2⟩
    have hbx:=(unhide HX).kept hw2
    have hc2:=hbx.cell
    have hf2:=hbx.frozen
    have HB2:=hide (gr_trans (unhide HB) hw2)
    rcases hans with ⟨a2,n2,c2,rfl,hm2⟩|⟨rfl,hO⟩
    ·have HM2:=hide (hm2.mono (show w.heap.size≤w1.heap.size from (unhide HB).size))
     clear hm2 hw2
     go_wp2
     exact bodyPost_ret (v:=.tuple #[.agg #[.slice a2 n2 c2],.int .i64 0]) (by simp [results,Tryz.results33,go_sem,hc2]) rfl ⟨Or.inl ⟨_,_,_,rfl,(unhide HM2).setBox hbx _⟩,(unhide HB2).setCell (by simp) _⟩
    ·have HO:=hide hO
     clear hO hw2
     go_wp2
     exact bodyPost_ret (v:=.tuple #[.agg #[.slice none 0 0],.int .i64 4]) (by simp [results,Tryz.results33,go_sem,hc2]) rfl ⟨Or.inr ⟨rfl,unhide HO⟩,(unhide HB2).setCell (by simp) _⟩
end Go.Proofs.YtplihgoapiiigaaGreatDoor
