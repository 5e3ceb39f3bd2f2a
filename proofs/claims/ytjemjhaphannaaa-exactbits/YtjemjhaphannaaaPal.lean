/- Of what ExactBitsRow stands on: UpOver UpDown Book RefBits Bad LowBig. -/
import Derived.Test.YtjemjhaphannaaaPak
import Derived.Test.YtjemjhaphannaaaPah
import Derived.Test.YtjemjhaphannaaaPaf
import Derived.Test.YtjemjhaphannaaaPaa
import Derived.Maps.AppendAt
import Derived.Laws.OwnMore
namespace Go.Proofs.Ytjemjhaphannaaa
open Go.RowKit
end Go.Proofs.Ytjemjhaphannaaa
namespace Go.Proofs.Ytjemjhaphannaaa
open Go.RowKit
theorem check_num (a : Option Addr) (n cap m : Nat) (w : World) (h : Num w a n m) :
  Calls Try.prog 21 #[.agg #[.slice a n cap]] w fun e w' => e = .returned (.int .i64 0) ∧ Below w.heap.size w w' := by
 obtain ⟨xs,hn,hl,hw,hN,hv,hb⟩ := h
 have := check_any a cap xs w (by omega) hl
 rw [hn,chk_ok (by omega) hN] at this
 exact this
theorem Mine.cap {w : World} {base : Nat} {a : Option Addr} {n cap m : Nat} (h : Mine w base a n cap m) : n ≤ cap ∧ cap ≤ 9223372036854775807 := by
 obtain ⟨xs,hn,ho,_⟩ := h
 obtain ⟨a',c',e,h1,h2,_⟩ := ho.lim
 injection e with e1 e2 e3
 omega
theorem bl_ex (m : Nat) : ∃ j,Bl m j := by
 induction m using Nat.strongRecOn with
 | ind m ih =>
  by_cases h : m = 0
  ·exact ⟨0,by subst h; exact bl_zero⟩
  ·obtain ⟨j,h1,h2⟩ := ih (m / 2) (by omega)
   refine ⟨j + 1,by rw [Nat.pow_succ]; omega,Or.inr ?_⟩
   rw [Nat.add_sub_cancel]
   rcases h2 with h2 | h2
   ·subst h2; simp; omega
   ·by_cases hj : j = 0
    ·subst hj; simp; omega
    ·have : 2 ^ j = 2 ^ (j - 1) * 2 := by rw [← Nat.pow_succ]; congr 1; omega
     omega
theorem and_one_u32 (e : Nat) (h : e < 4294967296) : Go.bits .and .u32 (e : Int) 1 = ((e % 2 : Nat) : Int) := by
 have h1 : (BitVec.ofInt 32 (e : Int)).toNat = e := by
  rw [BitVec.ofInt_natCast,BitVec.toNat_ofNat]; exact Nat.mod_eq_of_lt (by omega)
 show IntKind.u32.wrap ((BitVec.ofInt 32 (e : Int) &&& BitVec.ofInt 32 1).toNat : Int) = _
 rw [BitVec.toNat_and,h1,show (BitVec.ofInt 32 1).toNat = 1 from rfl,Nat.and_one_is_mod,IntKind.wrap_u32]
 omega
theorem ret_pair {a b : Bool} {v : Value} (h : a = b) : Ending.returned (.tuple #[.bool a,v]) = .returned (.tuple #[.bool b,v]) := by rw [h]
theorem beq_one (z : Nat) : (((z % 2 : Nat) : Int) == 1) = decide (z % 2 = 1) := by
 rw [Bool.eq_iff_iff,beq_iff_eq,decide_eq_true_eq]
 omega
theorem bit_row {xs : List Nat} (hw : Pl.Wf xs) (k : Nat) : Pl.val xs / 2 ^ k % 2 = xs[k / 32]?.getD 0 / 2 ^ (k % 32) % 2 := by
 have e : 2 ^ k = 4294967296 ^ (k / 32) * 2 ^ (k % 32) := by
  rw [show (4294967296 : Nat) = 2 ^ 32 from rfl,← Nat.pow_mul,← Nat.pow_add]
  congr 1; omega
 have hd : Pl.val xs / 4294967296 ^ (k / 32) = Pl.val (xs.drop (k / 32)) := by
  by_cases h : k / 32 ≤ xs.length
  ·have hlo := Pl.val_lt (Pl.wf_take hw (k / 32))
   rw [List.length_take,Nat.min_eq_left h] at hlo
   rw [Pl.val_split xs (k / 32) h,Nat.add_comm,Nat.mul_add_div (Nat.lt_of_le_of_lt (Nat.zero_le _) hlo),Nat.div_eq_of_lt hlo,Nat.add_zero]
  ·have h1 := Pl.val_lt hw
   have h2 := Pl.pow_le (show xs.length ≤ k / 32 by omega)
   rw [List.drop_eq_nil_of_le (by omega),Nat.div_eq_of_lt (Nat.lt_of_lt_of_le h1 h2)]
   rfl
 rw [e,← Nat.div_div_eq_div_mul,hd,val_mod xs hw (k / 32)]
 generalize Pl.val (xs.drop (k / 32)) = V
 have hp : k % 32 < 32 := by omega
 generalize k % 32 = p at *
 have hs := pow_split hp
 have hQ : 2 ^ (32 - p) = 2 * 2 ^ (31 - p) := by rw [show 32 - p = (31 - p) + 1 by omega,Nat.pow_succ,Nat.mul_comm]
 rw [hs,Nat.mod_mul_right_div_self,hQ,Nat.mod_mul_right_mod]
set_option maxHeartbeats 800000 in
theorem bit_any (a : Option Addr) (n cap m k : Nat) (w : World) (h : Num w a n m) (hk : k < 9223372036854775808) :
  Calls Try.prog 23 #[.agg #[.slice a n cap],.int .i64 (k : Int)] w fun e w' => e = .returned (.tuple #[.bool (decide (m / 2 ^ k % 2 = 1)),.int .i64 0]) ∧ Below w.heap.size w w' := by
 have HK := hide (fun (o1 : Obj) => check_num a n cap m (w.alloc o1) (h.alloc o1))
 obtain ⟨xs,hn,hl,hw,hN,hv,hb⟩ := h
 have hbr := bit_row hw k
 rw [hv] at hbr
 have hq : (k : Int) / 32 = ((k / 32 : Nat) : Int) := by omega
 have hwk : k / 32 < 288230376151711744 := by omega
 obtain ⟨pt,hpt⟩ : ∃ pt,pt = k % 32 := ⟨_,rfl⟩
 have hpk : pt < 32 := by omega
 have hr : (k : Int) % 32 = (pt : Int) := by omega
 rw [← hpt] at hbr
 have HP := hide hpt.symm
 obtain ⟨wh,hwh⟩ : ∃ wh,wh = k / 32 := ⟨_,rfl⟩
 rw [← hwh] at hq hbr hwk
 by_cases hlt : wh < n
 ·rcases hl.parts with hx | ⟨hp,b,off,rfl,hltb,hc⟩
  ·rw [hx] at hn; simp at hn; omega
  ·obtain ⟨x,hxx⟩ : ∃ x,x = xs[wh]?.getD 0 := ⟨_,rfl⟩
   have hx1 : x < 4294967296 := by rw [hxx]; exact Pl.wf_at hw wh
   have hcx0 := hc wh (by omega)
   rw [← hxx] at hcx0 hbr
   have HBR := hide hbr
   have hdl : ¬ (n : Int) ≤ (wh : Int) := by omega
   clear hbr hc hxx hwh hn hv hN hl hpt
   go_enter Try.func23,Try.ntmps23
   go_wp2_with fail
   refine (unhide HK _).mono ?_
   rintro e w1 ⟨rfl,hb1⟩
   have hbx := (Box.made w (.slice (some ⟨b,off,none⟩) n cap)).kept hb1
   have hcx := hbx.cell
   have HB := hide (gr_trans (gr_alloc w (.cells #[.slice (some ⟨b,off,none⟩) n cap] 26)) hb1)
   have hcx1 : w1.cell? ⟨b,off + wh,none⟩ = some (.int .u32 (x : Int)) := ((unhide HB).cell (by exact hltb)).trans hcx0
   clear hb1 HK hcx0
   go_wp2
   go_ret2
   refine ⟨ret_pair ?_,unhide HB⟩
   rw [show (x : Int) / 2 ^ pt = ((x / 2 ^ pt : Nat) : Int) by rw [Int.natCast_ediv,Int.natCast_pow]; rfl,and_one_u32 _ (Nat.lt_of_le_of_lt (Nat.div_le_self _ _) hx1),unhide HBR,beq_one]
 ·have hbz : m / 2 ^ k % 2 = 0 := by
   rw [hbr,List.getElem?_eq_none (by omega)]
   simp
  have HBR := hide hbz
  have hdl : (n : Int) ≤ (wh : Int) := by omega
  clear hbr hbz hwh hn hv hN hl hpt hlt
  go_enter Try.func23,Try.ntmps23
  go_wp2_with fail
  refine (unhide HK _).mono ?_
  rintro e w1 ⟨rfl,hb1⟩
  have hbx := (Box.made w (.slice a n cap)).kept hb1
  have hcx := hbx.cell
  have HB := hide (gr_trans (gr_alloc w (.cells #[.slice a n cap] 26)) hb1)
  clear hb1 HK
  go_wp2
  go_ret2
  refine ⟨ret_pair ?_,unhide HB⟩
  rw [unhide HBR]
  rfl
end Go.Proofs.Ytjemjhaphannaaa
namespace Go.Proofs.Ytjemjhaphannaaa
open Go.RowKit
def wst (W W1 W2 W3 : World) (b6 b7 b10 : Bool) : World := if b10 = true then W3 else if b7 = true then W2 else if b6 = true then W1 else W
structure RA (W W1 W2 W3 : World) (p f : Nat) (vf val v' : Value) (b0 b1 b2 b3 b4 b5 b6 b7 b8 b9 b10 : Bool) (v0 v1 v2 v3 v4 v5 v6 v7 v8 v9 : Value) (w' : World) : Prop where
 f0 : b0 = true → v0 = .pointer (some ⟨p,0,none⟩)
 f1 : b1 = true → v1 = .pointer (some ⟨p,0,none⟩)
 f2 : b2 = true → v2 = .pointer (some ⟨p,0,none⟩)
 f3 : b3 = true → v3 = .pointer (some ⟨p,f,none⟩)
 f4 : b4 = true → v4 = vf
 f5 : b5 = true → v5 = .agg #[val]
 f6 : b6 = true → v6 = .slice (some ⟨W.heap.size,0,none⟩) 1 1
 f7 : b7 = true → v7 = v'
 f8 : b8 = true → v8 = .pointer (some ⟨p,0,none⟩)
 f9 : b9 = true → v9 = .pointer (some ⟨p,f,none⟩)
 m7 : b7 = true → b6 = true
 m9 : b9 = true → b8 = true
 m10 : b10 = true → b0 = true ∧ b1 = true ∧ b2 = true ∧ b3 = true ∧ b4 = true ∧ b5 = true ∧ b6 = true ∧ b7 = true ∧ b8 = true ∧ b9 = true
 st : w' = wst W W1 W2 W3 b6 b7 b10
theorem RA.cells {W W1 W2 W3 : World} {p f pa : Nat} {vf val v' : Value} {b0 b1 b2 b3 b4 b5 b6 b7 b8 b9 b10 : Bool} {v0 v1 v2 v3 v4 v5 v6 v7 v8 v9 : Value} {w' : World} (h : RA W W1 W2 W3 p f vf val v' b0 b1 b2 b3 b4 b5 b6 b7 b8 b9 b10 v0 v1 v2 v3 v4 v5 v6 v7 v8 v9 w') (h10 : b10 = false)
  (c0 : W.cell? ⟨p,f,none⟩ = some vf ∧ W.cell? ⟨pa,0,none⟩ = some val) (c1 : W1.cell? ⟨p,f,none⟩ = some vf ∧ W1.cell? ⟨pa,0,none⟩ = some val) (c2 : W2.cell? ⟨p,f,none⟩ = some vf ∧ W2.cell? ⟨pa,0,none⟩ = some val) :
  w'.cell? ⟨p,f,none⟩ = some vf ∧ w'.cell? ⟨pa,0,none⟩ = some val := by
 rw [h.st,h10]
 unfold wst
 simp only [Bool.false_eq_true,if_false]
 by_cases h7 : b7 = true
 ·rw [if_pos h7]; exact c2
 ·rw [if_neg h7]
  by_cases h6 : b6 = true
  ·rw [if_pos h6]; exact c1
  ·rw [if_neg h6]; exact c0
theorem own_form {w : World} {base n : Nat} {t : TypeId} {v : Value} {xs : List Value} (h : w.ownsRow base t 1 v n xs) (hn : 0 < n) : ∃ g cap,v = .slice (some ⟨g,0,none⟩) n cap := by
 obtain ⟨h1,h2 | ⟨g,cap,cur,e,_⟩⟩ := h
 ·omega
 ·exact ⟨g,cap,e⟩
structure Fr (w w' : World) (p : Nat) (r1 r2 : Option Nat) : Prop where
 os : w'.os = w.os
 tape : w'.tape = w.tape
 output : w'.output = w.output
 size : w.heap.size ≤ w'.heap.size
 block : ∀ k,k < w.heap.size → k ≠ p → some k ≠ r1 → some k ≠ r2 → w'.heap[k]? = w.heap[k]?
theorem Fr.drew {w w' : World} {p : Nat} {r1 r2 : Option Nat} (h : Fr w w' p r1 r2) : Fr w w'.drew p r1 r2 := ⟨h.os,h.tape,h.output,h.size,h.block⟩
end Go.Proofs.Ytjemjhaphannaaa
namespace Go.Proofs.Ytjemjhaphannaaa
open Go.RowKit
theorem rlimb_any (a : Option Addr) (n cap i : Nat) (xs : List Nat) (w : World) (hn : xs.length = n) (hl : Lim w a xs) (hw : Pl.Wf xs) (hi : i < 9223372036854775808) :
  Calls Try.prog 29 #[.slice a n cap,.int .i64 (i : Int)] w fun e w' => e = .returned (.int .u64 ((xs[i]?.getD 0 : Nat) : Int)) ∧ w = w' := by
 by_cases hlt : i < n
 ·rcases hl.parts with hx | ⟨hp,b,off,rfl,hltb,hc⟩
  ·rw [hx] at hn; simp at hn; omega
  ·have hcx := hc i (by omega)
   have hx1 := Pl.wf_at hw i
   have hli : (i : Int) < (n : Int) := by omega
   generalize xs[i]?.getD 0 = x at *
   clear hc hl hlt
   go_enter Try.func29,Try.ntmps29
   go_wp2
   go_ret
   exact ⟨rfl,rfl⟩
 ·have hz : xs[i]?.getD 0 = 0 := by rw [List.getElem?_eq_none (by omega)]; rfl
  rw [hz]
  have hli : ¬ (i : Int) < (n : Int) := by omega
  clear hlt hz hl hn
  go_enter Try.func29,Try.ntmps29
  go_wp2
  go_ret
  exact ⟨rfl,rfl⟩
theorem bl_half {x k : Nat} (hx : x ≠ 0) (h : Bl (x / 2) k) : Bl x (k + 1) := by
 obtain ⟨h1,h2⟩ := h
 refine ⟨by rw [Nat.pow_succ]; omega,Or.inr ?_⟩
 rw [Nat.add_sub_cancel]
 rcases h2 with h2 | h2
 ·subst h2; simp; omega
 ·by_cases hz : k = 0
  ·subst hz; simp; omega
  ·have : 2 ^ k = 2 ^ (k - 1) * 2 := by rw [← Nat.pow_succ]; congr 1; omega
   omega
set_option maxHeartbeats 400000 in
theorem rsize_any (a : Option Addr) (n cap m : Nat) (w : World) (h : Num w a n m) :
  Calls Try.prog 28 #[.slice a n cap] w fun e w' => (∃ k : Nat,e = .returned (.int .i64 (k : Int)) ∧ Bl m k ∧ k ≤ 32 * n) ∧ w = w' := by
 obtain ⟨xs,hn,hl,hw,hN,hv,hb⟩ := h
 subst hn
 rcases hl.parts with hx | ⟨hp,b,off,rfl,hlt,hc⟩
 ·subst hx
  go_enter Try.func28,Try.ntmps28
  go_wp2
  go_ret
  exact ⟨⟨0,rfl,by rw [← hv]; exact bl_zero,by omega⟩,rfl⟩
 ·obtain ⟨l,hle⟩ : ∃ l,l = xs[xs.length - 1]?.getD 0 := ⟨_,rfl⟩
  have hcell := hc (xs.length - 1) (by omega)
  rw [← hle] at hcell
  have hll : l < 4294967296 := by rw [hle]; exact Pl.wf_at hw _
  have hB := bl_row hw hN hp l hle
  have hxl : ((xs.length : Int) == 0) = false := by simp; intro h; simp [h] at hp
  obtain ⟨hB1,hB2,hB3⟩ := hB
  rw [hv] at hB1
  have HB := hide hB1
  have HL := hide (bl_bitLen 64 l (by omega) (by omega))
  generalize hbl : Lib.bitLen l = bl at *
  have hnl : xs.length ≤ 16384 := hb
  have hnp : 0 < xs.length := hp
  generalize xs.length = n at *
  clear hB1 hle hc hl hv hN hw hbl
  go_enter Try.func28,Try.ntmps28
  go_wp2
  go_loopw [3,4] (fun s3 s4 wr => ∃ (x k j : Nat),s4 = .int .u32 (x : Int) ∧ x < 4294967296 ∧ s3 = .int .i64 (32 * ((n : Int) - 1) + (j : Int)) ∧ j + k = bl ∧ Hid (Bl x k) ∧ w = wr) (fun _ s4 _ => (intOf s4).toNat)
  case atStart => exact ⟨l,bl,0,rfl,hll,by simp,by omega,HL,rfl⟩
  case round =>
   obtain ⟨x,k,j,rfl,hx,rfl,hjk,HX,rfl⟩ := hrel
   by_cases h0 : x = 0
   ·subst h0
    have hk0 : k = 0 := (unhide HX).uniq bl_zero
    have hji : 32 * ((n : Int) - 1) + (j : Int) = ((32 * (n - 1) + bl : Nat) : Int) := by omega
    clear HX
    go_wp2
    go_ret
    exact ⟨⟨32 * (n - 1) + bl,ret_int hji,unhide HB,by omega⟩,rfl⟩
   ·obtain ⟨k',hk'⟩ : ∃ k',Bl (x / 2) k' := bl_ex (x / 2)
    have hkk : k = k' + 1 := (unhide HX).uniq (bl_half h0 hk')
    have HX' := hide hk'
    have hx0i : (0 : Int) < (x : Int) := by omega
    clear HX hk'
    go_wp2
    go_roundw
    case rel =>
     have e1 : (x : Int) / 2 = ((x / 2 : Nat) : Int) := by omega
     rw [e1]
     exact ⟨x / 2,k',j + 1,rfl,by omega,by congr 1; omega,by omega,unhide HX',trivial⟩
    case measure => simp [intOf]; omega
set_option maxHeartbeats 400000 in
theorem rbits_any (a : Option Addr) (n cap m : Nat) (w : World) (h : Num w a n m) :
  Calls Try.prog 12 #[.agg #[.slice a n cap]] w fun e w' => (∃ k : Nat,e = .returned (.tuple #[.int .i64 (k : Int),.int .i64 0]) ∧ Bl m k ∧ k ≤ 32 * n) ∧ Below w.heap.size w w' := by
 have hNum := h
 obtain ⟨xs,hn,hl,hw,hN,hv,hb⟩ := h
 subst hn
 have HN := hide hNum
 clear hNum
 have hz : chk xs = 0 := chk_ok hb hN
 have hzb : (chk xs != 0) = false := by rw [hz]; rfl
 clear hz
 go_enter Try.func12,Try.ntmps12
 go_wp2_with fail
 refine (rcheck_any a cap xs _ (by omega) (hl.alloc _)).mono ?_
 rintro e w1 ⟨rfl,hb1⟩
 obtain ⟨hc1,hf1⟩ := bcell hb1
 go_wp2_with fail
 have hn1 := ((unhide HN).kept (gr_alloc _ _)).kept hb1
 refine (rsize_any a xs.length cap m _ hn1).mono ?_
 rintro e w2 ⟨⟨k,rfl,hk1,hk2⟩,rfl⟩
 go_wp2
 go_ret2
 exact ⟨⟨k,rfl,hk1,hk2⟩,gr_trans (gr_alloc _ _) hb1⟩
end Go.Proofs.Ytjemjhaphannaaa
namespace Go.Proofs.Ytjemjhaphannaaa
open Go.RowKit
end Go.Proofs.Ytjemjhaphannaaa
namespace Go.Proofs.Ytjemjhaphannaaa
open Go.RowKit
end Go.Proofs.Ytjemjhaphannaaa
