/- Of what SoftPicksRow stands on: UpOver UpDown BookG RefBits Bad LowBig. -/
import Derived.Test.YtongmpfampjdoaaGreatDoorPag
import Derived.Test.YtongmpfampjdoaaGreatDoorPai
import Derived.Test.YtongmpfampjdoaaGreatDoorPaf
import Derived.Test.YtongmpfampjdoaaGreatDoorPaa
import Derived.Maps.AppendAt
import Derived.Laws.OwnMore
namespace Go.Proofs.YtongmpfampjdoaaGreatDoor
open Go.RowKit
set_option maxHeartbeats 800000
theorem check_num (a : Option Addr) (n cap m : Nat) (w : World) (h : Num w a n m) :
  Calls Tryz.prog 71 #[.agg #[.slice a n cap]] w fun e w' => e = .returned (.int .i64 0) ∧ Below w.heap.size w w' := by
 obtain ⟨xs,hn,hl,hw,hN,hv,hb⟩ := h
 have := check_any a cap xs w (by omega) hl
 rw [hn,chk_ok (by omega) hN] at this
 exact this
theorem Mine.cap {w : World} {base : Nat} {a : Option Addr} {n cap m : Nat} (h : Mine w base a n cap m) : n ≤ cap ∧ cap ≤ 9223372036854775807 := by
 obtain ⟨xs,hn,ho,_⟩ := h
 obtain ⟨a',c',e,h1,h2,_⟩ := ho.lim
 injection e with e1 e2 e3
 omega
theorem bl_ex (m : Nat) : ∃ j,Bl m j := by
 induction m using Nat.strongRecOn with
 | ind m ih =>
  by_cases h : m = 0
  ·exact ⟨0,by subst h; exact bl_zero⟩
  ·obtain ⟨j,h1,h2⟩ := ih (m / 2) (by omega)
   refine ⟨j + 1,by rw [Nat.pow_succ]; omega,Or.inr ?_⟩
   rw [Nat.add_sub_cancel]
   rcases h2 with h2 | h2
   ·subst h2; simp; omega
   ·by_cases hj : j = 0
    ·subst hj; simp; omega
    ·have : 2 ^ j = 2 ^ (j - 1) * 2 := by rw [← Nat.pow_succ]; congr 1; omega
     omega
theorem down_any (a : Option Addr) (n cap m k : Nat) (w : World) (h : Num w a n m) (hcap : n ≤ cap) (hcap2 : cap ≤ 9223372036854775807) (hk : k < 9223372036854775808) :
  Calls Tryz.prog 74 #[.agg #[.slice a n cap],.int .i64 (k : Int)] w fun e w' => (∃ a' n' c',e = .returned (.tuple #[.agg #[.slice a' n' c'],.int .i64 0]) ∧ Mine w' w.heap.size a' n' c' (m / 2 ^ k)) ∧ Below w.heap.size w w' := by
 have HS := hide (fun w1 h => shiftDown_any a n cap m k w1 h hcap hcap2 hk)
 have HK := hide (fun (o1 o2 : Obj) => check_num a n cap m ((w.alloc o1).alloc o2) ((h.alloc o1).alloc o2))
 have H := hide h
 clear h hcap hcap2
 go_enter Tryz.func74,Tryz.ntmps74
 go_wp2_with fail
 refine (unhide HK _ _).mono ?_
 rintro e w1 ⟨rfl,hb1⟩
 have hbx := ((Box.made w (.slice a n cap)).alloc (.cells #[.slice none 0 0] 55)).kept hb1
 have hby := (Box.made (w.alloc (.cells #[.slice a n cap] 55)) (.slice none 0 0)).kept hb1
 simp only [World.size_alloc] at hby
 have hcx := hbx.cell
 have HB := hide (gr_trans (gr_trans (gr_alloc w (.cells #[.slice a n cap] 55)) (gr_alloc _ (.cells #[.slice none 0 0] 55))) hb1)
 clear hb1 HK
 go_wp2_with fail
 refine (unhide HS _ ((unhide H).kept (unhide HB))).mono ?_
 rintro e w2 ⟨⟨a2,n2,c2,rfl,hm2⟩,hb2⟩
 have hX2 := hby.kept hb2
 have hcx := hX2.cell
 have hfx := hX2.frozen
 have HM := hide (hm2.mono (unhide HB).size)
 have HB2 := hide (gr_trans (unhide HB) hb2)
 clear hm2 hb2
 go_wp2
 exact bodyPost_ret (v := .tuple #[.agg #[.slice a2 n2 c2],.int .i64 0]) (by simp [results,Tryz.results74,go_sem,hcx]) rfl ⟨⟨_,_,_,rfl,(unhide HM).setBox hX2 _⟩,(unhide HB2).setCell (Nat.le_add_right _ 1) _⟩
theorem ret_pair {a b : Bool} {v : Value} (h : a = b) : Ending.returned (.tuple #[.bool a,v]) = .returned (.tuple #[.bool b,v]) := by rw [h]
theorem beq_one (z : Nat) : (((z % 2 : Nat) : Int) == 1) = decide (z % 2 = 1) := by
 rw [Bool.eq_iff_iff,beq_iff_eq,decide_eq_true_eq]
 omega
theorem bit_row {xs : List Nat} (hw : Pl.Wf xs) (k : Nat) : Pl.val xs / 2 ^ k % 2 = xs[k / 32]?.getD 0 / 2 ^ (k % 32) % 2 := by
 have e : 2 ^ k = 4294967296 ^ (k / 32) * 2 ^ (k % 32) := by
  rw [show (4294967296 : Nat) = 2 ^ 32 from rfl,← Nat.pow_mul,← Nat.pow_add]
  congr 1; omega
 have hd : Pl.val xs / 4294967296 ^ (k / 32) = Pl.val (xs.drop (k / 32)) := by
  by_cases h : k / 32 ≤ xs.length
  ·have hlo := Pl.val_lt (Pl.wf_take hw (k / 32))
   rw [List.length_take,Nat.min_eq_left h] at hlo
   rw [Pl.val_split xs (k / 32) h,Nat.add_comm,Nat.mul_add_div (Nat.lt_of_le_of_lt (Nat.zero_le _) hlo),Nat.div_eq_of_lt hlo,Nat.add_zero]
  ·have h1 := Pl.val_lt hw
   have h2 := Pl.pow_le (show xs.length ≤ k / 32 by omega)
   rw [List.drop_eq_nil_of_le (by omega),Nat.div_eq_of_lt (Nat.lt_of_lt_of_le h1 h2)]
   rfl
 rw [e,← Nat.div_div_eq_div_mul,hd,val_mod xs hw (k / 32)]
 generalize Pl.val (xs.drop (k / 32)) = V
 have hp : k % 32 < 32 := by omega
 generalize k % 32 = p at *
 have hs := pow_split hp
 have hQ : 2 ^ (32 - p) = 2 * 2 ^ (31 - p) := by rw [show 32 - p = (31 - p) + 1 by omega,Nat.pow_succ,Nat.mul_comm]
 rw [hs,Nat.mod_mul_right_div_self,hQ,Nat.mod_mul_right_mod]
def wst (W W1 W2 W3 : World) (b6 b7 b10 : Bool) : World := if b10 = true then W3 else if b7 = true then W2 else if b6 = true then W1 else W
structure RA (W W1 W2 W3 : World) (p f : Nat) (vf val v' : Value) (b0 b1 b2 b3 b4 b5 b6 b7 b8 b9 b10 : Bool) (v0 v1 v2 v3 v4 v5 v6 v7 v8 v9 : Value) (w' : World) : Prop where
 f0 : b0 = true → v0 = .pointer (some ⟨p,0,none⟩)
 f1 : b1 = true → v1 = .pointer (some ⟨p,0,none⟩)
 f2 : b2 = true → v2 = .pointer (some ⟨p,0,none⟩)
 f3 : b3 = true → v3 = .pointer (some ⟨p,f,none⟩)
 f4 : b4 = true → v4 = vf
 f5 : b5 = true → v5 = .agg #[val]
 f6 : b6 = true → v6 = .slice (some ⟨W.heap.size,0,none⟩) 1 1
 f7 : b7 = true → v7 = v'
 f8 : b8 = true → v8 = .pointer (some ⟨p,0,none⟩)
 f9 : b9 = true → v9 = .pointer (some ⟨p,f,none⟩)
 m7 : b7 = true → b6 = true
 m9 : b9 = true → b8 = true
 m10 : b10 = true → b0 = true ∧ b1 = true ∧ b2 = true ∧ b3 = true ∧ b4 = true ∧ b5 = true ∧ b6 = true ∧ b7 = true ∧ b8 = true ∧ b9 = true
 st : w' = wst W W1 W2 W3 b6 b7 b10
theorem RA.cells {W W1 W2 W3 : World} {p f pa : Nat} {vf val v' : Value} {b0 b1 b2 b3 b4 b5 b6 b7 b8 b9 b10 : Bool} {v0 v1 v2 v3 v4 v5 v6 v7 v8 v9 : Value} {w' : World} (h : RA W W1 W2 W3 p f vf val v' b0 b1 b2 b3 b4 b5 b6 b7 b8 b9 b10 v0 v1 v2 v3 v4 v5 v6 v7 v8 v9 w') (h10 : b10 = false)
  (c0 : W.cell? ⟨p,f,none⟩ = some vf ∧ W.cell? ⟨pa,0,none⟩ = some val) (c1 : W1.cell? ⟨p,f,none⟩ = some vf ∧ W1.cell? ⟨pa,0,none⟩ = some val) (c2 : W2.cell? ⟨p,f,none⟩ = some vf ∧ W2.cell? ⟨pa,0,none⟩ = some val) :
  w'.cell? ⟨p,f,none⟩ = some vf ∧ w'.cell? ⟨pa,0,none⟩ = some val := by
 rw [h.st,h10]
 unfold wst
 simp only [Bool.false_eq_true,if_false]
 by_cases h7 : b7 = true
 ·rw [if_pos h7]; exact c2
 ·rw [if_neg h7]
  by_cases h6 : b6 = true
  ·rw [if_pos h6]; exact c1
  ·rw [if_neg h6]; exact c0
structure Fr (w w' : World) (p : Nat) (r1 r2 : Option Nat) : Prop where
 os : w'.os = w.os
 tape : w'.tape = w.tape
 output : w'.output = w.output
 size : w.heap.size ≤ w'.heap.size
 block : ∀ k,k < w.heap.size → k ≠ p → some k ≠ r1 → some k ≠ r2 → w'.heap[k]? = w.heap[k]?
theorem Fr.drew {w w' : World} {p : Nat} {r1 r2 : Option Nat} (h : Fr w w' p r1 r2) : Fr w w'.drew p r1 r2 := ⟨h.os,h.tape,h.output,h.size,h.block⟩
theorem rlimb_any (a : Option Addr) (n cap i : Nat) (xs : List Nat) (w : World) (hn : xs.length = n) (hl : Lim w a xs) (hw : Pl.Wf xs) (hi : i < 9223372036854775808) :
  Calls Tryz.prog 76 #[.slice a n cap,.int .i64 (i : Int)] w fun e w' => e = .returned (.int .u64 ((xs[i]?.getD 0 : Nat) : Int)) ∧ w = w' := by
 by_cases hlt : i < n
 ·rcases hl.parts with hx | ⟨hp,b,off,rfl,hltb,hc⟩
  ·rw [hx] at hn; simp at hn; omega
  ·have hcx := hc i (by omega)
   have hx1 := Pl.wf_at hw i
   have hli : (i : Int) < (n : Int) := by omega
   generalize xs[i]?.getD 0 = x at *
   clear hc hl hlt
   go_enter Tryz.func76,Tryz.ntmps76
   go_wp2
   go_ret
   exact ⟨rfl,rfl⟩
 ·have hz : xs[i]?.getD 0 = 0 := by rw [List.getElem?_eq_none (by omega)]; rfl
  rw [hz]
  have hli : ¬ (i : Int) < (n : Int) := by omega
  clear hlt hz hl hn
  go_enter Tryz.func76,Tryz.ntmps76
  go_wp2
  go_ret
  exact ⟨rfl,rfl⟩
theorem and_one_u64 (e : Nat) (h : e < 18446744073709551616) : Go.bits .and .u64 (e : Int) 1 = ((e % 2 : Nat) : Int) := by
 have h1 : (BitVec.ofInt 64 (e : Int)).toNat = e := by
  rw [BitVec.ofInt_natCast,BitVec.toNat_ofNat]; exact Nat.mod_eq_of_lt (by omega)
 show IntKind.u64.wrap ((BitVec.ofInt 64 (e : Int) &&& BitVec.ofInt 64 1).toNat : Int) = _
 rw [BitVec.toNat_and,h1,show (BitVec.ofInt 64 1).toNat = 1 from rfl,Nat.and_one_is_mod,IntKind.wrap_u64]
 omega
theorem rbit_any (a : Option Addr) (n cap m k : Nat) (w : World) (h : Num w a n m) (hk : k < 9223372036854775808) :
  Calls Tryz.prog 69 #[.agg #[.slice a n cap],.int .i64 (k : Int)] w fun e w' => e = .returned (.tuple #[.bool (decide (m / 2 ^ k % 2 = 1)),.int .i64 0]) ∧ Below w.heap.size w w' := by
 obtain ⟨xs,hn,hl,hw,hN,hv,hb⟩ := h
 have hck := fun o1 : Obj => rcheck_any a cap xs (w.alloc o1) (by omega) (hl.alloc o1)
 rw [hn,chk_ok (by omega) hN] at hck
 have HK := hide hck
 have hbr := bit_row hw k
 rw [hv] at hbr
 obtain ⟨wh,hwh⟩ : ∃ wh,wh = k / 32 := ⟨_,rfl⟩
 obtain ⟨pt,hpt⟩ : ∃ pt,pt = k % 32 := ⟨_,rfl⟩
 have hq : (k : Int) / 32 = (wh : Int) := by omega
 have hr : (k : Int) % 32 = (pt : Int) := by omega
 have hpk : pt < 32 := by omega
 rw [← hwh,← hpt] at hbr
 have hx1 : xs[wh]?.getD 0 < 4294967296 := Pl.wf_at hw wh
 have HL := hide (fun w (h : Lim w a xs) => rlimb_any a n cap wh xs w hn h hw (by omega))
 have HBR := hide hbr
 have hwb : wh < 288230376151711744 := by omega
 generalize xs[wh]?.getD 0 = x at *
 clear hbr hck hn hv hN hwh hpt
 go_enter Tryz.func69,Tryz.ntmps69
 go_wp2_with fail
 refine (unhide HK _).mono ?_
 rintro e w1 ⟨rfl,hb1⟩
 have hbx := (Box.made w (.slice a n cap)).kept hb1
 have hcx := hbx.cell
 have HB := hide (gr_trans (gr_alloc w (.cells #[.slice a n cap] 55)) hb1)
 clear hb1 HK
 go_wp2_with fail
 refine (unhide HL w1 (hl.below (unhide HB))).mono ?_
 rintro e w2 ⟨rfl,rfl⟩
 go_wp2
 go_ret2
 refine ⟨ret_pair ?_,unhide HB⟩
 rw [show (x : Int) / 2 ^ pt = ((x / 2 ^ pt : Nat) : Int) by rw [Int.natCast_ediv,Int.natCast_pow]; rfl,and_one_u64 _ (Nat.lt_of_le_of_lt (Nat.div_le_self _ _) (by omega)),unhide HBR,beq_one]
end Go.Proofs.YtongmpfampjdoaaGreatDoor
