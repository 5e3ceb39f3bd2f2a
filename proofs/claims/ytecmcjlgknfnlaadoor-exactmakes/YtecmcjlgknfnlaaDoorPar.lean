/- Of what ExactMakesRow stands on: ExMake ExWorth. -/
import Derived.Test.YtecmcjlgknfnlaaDoorPaq
import Derived.Test.YtecmcjlgknfnlaaDoorPai
import Derived.Test.YtecmcjlgknfnlaaDoorPao
namespace Go.Proofs.YtecmcjlgknfnlaaDoor
open Go.RowKit
theorem Tz.uniq {m y z : Nat} (h : Tz m y) (k : Tz m z) : y = z := by
 obtain ⟨p,hp⟩ := h
 obtain ⟨q,hq⟩ := k
 rcases Nat.lt_trichotomy y z with hlt | rfl | hlt
 ·exfalso
  obtain ⟨d,rfl⟩ : ∃ d,z = y + (d + 1) := ⟨z - y - 1,by omega⟩
  rw [hp,Nat.pow_add,Nat.mul_assoc] at hq
  have := Nat.eq_of_mul_eq_mul_left (Nat.pow_pos (by decide : 0 < 2)) hq
  rw [Nat.pow_succ,Nat.mul_right_comm] at this
  omega
 ·rfl
 ·exfalso
  obtain ⟨d,rfl⟩ : ∃ d,y = z + (d + 1) := ⟨y - z - 1,by omega⟩
  rw [hp,Nat.pow_add,Nat.mul_assoc] at hq
  have := Nat.eq_of_mul_eq_mul_left (Nat.pow_pos (by decide : 0 < 2)) hq
  rw [Nat.pow_succ,Nat.mul_right_comm] at this
  omega
theorem twosIn_z (a : Option Addr) (n cap m z : Nat) (w : World) (h : Num w a n m) (hm : 0 < m) (hT : Tb w) (hz : Tz m z) :
  Calls Tryd.prog 41 #[.agg #[.slice a n cap]] w fun e w' => e = .returned (.int .i64 (z : Int)) ∧ Below w.heap.size w w' := by
 refine (twosIn_any a n cap m w h hm hT).mono ?_
 rintro e w' ⟨⟨y,rfl,hy,_⟩,hb⟩
 obtain rfl := hy.uniq hz
 exact ⟨rfl,hb⟩
set_option maxHeartbeats 400000 in
theorem make_bad (s : Bool) (a : Option Addr) (n cap : Nat) (xs : List Nat) (x : Int) (w : World) (hn : xs.length = n) (hbig : n ≤ 9223372036854775807) (hl : Lim w a xs) (hc : chk xs ≠ 0) :
  Calls Tryd.prog 11 #[.bool s,.agg #[.slice a n cap],.int .i64 x] w fun e w' => e = .returned (.tuple #[.agg #[.bool false,.slice none 0 0,.int .i64 0],.int .i64 (chk xs)]) ∧ Below w.heap.size w w' := by
 have hcb : (chk xs != 0) = true := by simpa using hc
 have HL := hide hl
 subst hn
 clear hl hc
 go_enter Tryd.func11,Tryd.ntmps11
 go_wp2_with fail
 refine (check_any a cap xs _ hbig (((unhide HL).alloc _).alloc _)).mono ?_
 rintro e w1 ⟨rfl,hb1⟩
 have hS := (Fs.two w _ _ _ _).kept hb1
 obtain ⟨⟨z1_0_0,-⟩,⟨z1_1_0,z1_1_1,z1_1_2,-⟩,-⟩ := hS.cells
 have fz0 := hS.frozen (b := w.heap.size + 1) (cs := #[.bool false,.slice none 0 0,.int .i64 0]) (t := 26) (by simp) 0
 have fz1 := hS.frozen (b := w.heap.size + 1) (cs := #[.bool false,.slice none 0 0,.int .i64 0]) (t := 26) (by simp) 1
 have fz2 := hS.frozen (b := w.heap.size + 1) (cs := #[.bool false,.slice none 0 0,.int .i64 0]) (t := 26) (by simp) 2
 go_wp2
 exact bodyPost_ret (v := .tuple #[.agg #[.bool false,.slice none 0 0,.int .i64 0],.int .i64 (chk xs)]) (by simp [results,Tryd.results11,go_sem,z1_1_0,z1_1_1,z1_1_2]) rfl ⟨rfl,((hS.fr.setCell (by simp) _).setCell (by simp) _).setCell (by simp) _⟩
set_option maxHeartbeats 400000 in
theorem make_nought (s : Bool) (a : Option Addr) (cap : Nat) (x : Int) (w : World) (h : Num w a 0 0) :
  Calls Tryd.prog 11 #[.bool s,.agg #[.slice a 0 cap],.int .i64 x] w fun e w' => e = .returned (.tuple #[.agg #[.bool false,.slice none 0 0,.int .i64 0],.int .i64 0]) ∧ Below w.heap.size w w' := by
 have H := hide h
 clear h
 go_enter Tryd.func11,Tryd.ntmps11
 go_wp2_with fail
 refine (check_num a 0 cap 0 _ (((unhide H).alloc _).alloc _)).mono ?_
 rintro e w1 ⟨rfl,hb1⟩
 have hS := (Fs.two w _ _ _ _).kept hb1
 obtain ⟨⟨z1_0_0,-⟩,⟨z1_1_0,z1_1_1,z1_1_2,-⟩,-⟩ := hS.cells
 go_wp2_with fail
 refine (isNought_yes a cap _).mono ?_
 rintro e w2 ⟨rfl,hb2⟩
 replace hS := hS.kept hb2
 clear z1_0_0 z1_1_0 z1_1_1 z1_1_2
 obtain ⟨⟨z2_0_0,-⟩,⟨z2_1_0,z2_1_1,z2_1_2,-⟩,-⟩ := hS.cells
 have fz0 := hS.frozen (b := w.heap.size + 1) (cs := #[.bool false,.slice none 0 0,.int .i64 0]) (t := 26) (by simp) 0
 have fz1 := hS.frozen (b := w.heap.size + 1) (cs := #[.bool false,.slice none 0 0,.int .i64 0]) (t := 26) (by simp) 1
 have fz2 := hS.frozen (b := w.heap.size + 1) (cs := #[.bool false,.slice none 0 0,.int .i64 0]) (t := 26) (by simp) 2
 go_wp2
 exact bodyPost_ret (v := .tuple #[.agg #[.bool false,.slice none 0 0,.int .i64 0],.int .i64 0]) (by simp [results,Tryd.results11,go_sem,z2_1_0,z2_1_1,z2_1_2]) rfl ⟨rfl,((hS.fr.setCell (by simp) _).setCell (by simp) _).setCell (by simp) _⟩
set_option maxHeartbeats 400000 in
theorem make_above (s : Bool) (a : Option Addr) (n cap m z : Nat) (x : Int) (w : World) (h : Num w a n m) (hm : 0 < m) (hT : Tb w) (hz : Tz m z) (hz2 : z < 524288) (hx : 1073741824 < x + z) :
  Calls Tryd.prog 11 #[.bool s,.agg #[.slice a n cap],.int .i64 x] w fun e w' => e = .returned (.tuple #[.agg #[.bool false,.slice none 0 0,.int .i64 0],.int .i64 4]) ∧ Below w.heap.size w w' := by
 have hn0 : 0 < n := by have := h.zero; omega
 have H := hide h
 have HM := hide hm
 have HT := hide hT
 have HZ := hide hz
 clear h hm hT hz
 go_enter Tryd.func11,Tryd.ntmps11
 go_wp2_with fail
 refine (check_num a n cap m _ (((unhide H).alloc _).alloc _)).mono ?_
 rintro e w1 ⟨rfl,hb1⟩
 have hS := (Fs.two w _ _ _ _).kept hb1
 obtain ⟨⟨z1_0_0,-⟩,⟨z1_1_0,z1_1_1,z1_1_2,-⟩,-⟩ := hS.cells
 go_wp2_with fail
 refine (isNought_no a n cap hn0 _).mono ?_
 rintro e w2 ⟨rfl,hb2⟩
 replace hS := hS.kept hb2
 clear z1_0_0 z1_1_0 z1_1_1 z1_1_2
 obtain ⟨⟨z2_0_0,-⟩,⟨z2_1_0,z2_1_1,z2_1_2,-⟩,-⟩ := hS.cells
 go_wp2_with fail
 refine (twosIn_z a n cap m z _ ((unhide H).kept hS.fr) (unhide HM) ((unhide HT).kept hS.fr) (unhide HZ)).mono ?_
 rintro e w3 ⟨rfl,hb3⟩
 replace hS := hS.kept hb3
 clear z2_0_0 z2_1_0 z2_1_1 z2_1_2
 obtain ⟨⟨z3_0_0,-⟩,⟨z3_1_0,z3_1_1,z3_1_2,-⟩,-⟩ := hS.cells
 have fz0 := hS.frozen (b := w.heap.size + 1) (cs := #[.bool false,.slice none 0 0,.int .i64 0]) (t := 26) (by simp) 0
 have fz1 := hS.frozen (b := w.heap.size + 1) (cs := #[.bool false,.slice none 0 0,.int .i64 0]) (t := 26) (by simp) 1
 have fz2 := hS.frozen (b := w.heap.size + 1) (cs := #[.bool false,.slice none 0 0,.int .i64 0]) (t := 26) (by simp) 2
 go_wp2
 exact bodyPost_ret (v := .tuple #[.agg #[.bool false,.slice none 0 0,.int .i64 0],.int .i64 4]) (by simp [results,Tryd.results11,go_sem,z3_1_0,z3_1_1,z3_1_2]) rfl ⟨rfl,((hS.fr.setCell (by simp) _).setCell (by simp) _).setCell (by simp) _⟩
set_option maxHeartbeats 400000 in
theorem make_below (s : Bool) (a : Option Addr) (n cap m z : Nat) (x : Int) (w : World) (h : Num w a n m) (hm : 0 < m) (hT : Tb w) (hz : Tz m z) (hz2 : z < 524288) (hx : x + z < -1073741824) :
  Calls Tryd.prog 11 #[.bool s,.agg #[.slice a n cap],.int .i64 x] w fun e w' => e = .returned (.tuple #[.agg #[.bool false,.slice none 0 0,.int .i64 0],.int .i64 4]) ∧ Below w.heap.size w w' := by
 have hn0 : 0 < n := by have := h.zero; omega
 have H := hide h
 have HM := hide hm
 have HT := hide hT
 have HZ := hide hz
 clear h hm hT hz
 go_enter Tryd.func11,Tryd.ntmps11
 go_wp2_with fail
 refine (check_num a n cap m _ (((unhide H).alloc _).alloc _)).mono ?_
 rintro e w1 ⟨rfl,hb1⟩
 have hS := (Fs.two w _ _ _ _).kept hb1
 obtain ⟨⟨z1_0_0,-⟩,⟨z1_1_0,z1_1_1,z1_1_2,-⟩,-⟩ := hS.cells
 go_wp2_with fail
 refine (isNought_no a n cap hn0 _).mono ?_
 rintro e w2 ⟨rfl,hb2⟩
 replace hS := hS.kept hb2
 clear z1_0_0 z1_1_0 z1_1_1 z1_1_2
 obtain ⟨⟨z2_0_0,-⟩,⟨z2_1_0,z2_1_1,z2_1_2,-⟩,-⟩ := hS.cells
 go_wp2_with fail
 refine (twosIn_z a n cap m z _ ((unhide H).kept hS.fr) (unhide HM) ((unhide HT).kept hS.fr) (unhide HZ)).mono ?_
 rintro e w3 ⟨rfl,hb3⟩
 replace hS := hS.kept hb3
 clear z2_0_0 z2_1_0 z2_1_1 z2_1_2
 obtain ⟨⟨z3_0_0,-⟩,⟨z3_1_0,z3_1_1,z3_1_2,-⟩,-⟩ := hS.cells
 have fz0 := hS.frozen (b := w.heap.size + 1) (cs := #[.bool false,.slice none 0 0,.int .i64 0]) (t := 26) (by simp) 0
 have fz1 := hS.frozen (b := w.heap.size + 1) (cs := #[.bool false,.slice none 0 0,.int .i64 0]) (t := 26) (by simp) 1
 have fz2 := hS.frozen (b := w.heap.size + 1) (cs := #[.bool false,.slice none 0 0,.int .i64 0]) (t := 26) (by simp) 2
 go_wp2
 exact bodyPost_ret (v := .tuple #[.agg #[.bool false,.slice none 0 0,.int .i64 0],.int .i64 4]) (by simp [results,Tryd.results11,go_sem,z3_1_0,z3_1_1,z3_1_2]) rfl ⟨rfl,((hS.fr.setCell (by simp) _).setCell (by simp) _).setCell (by simp) _⟩
set_option maxHeartbeats 1000000 in
theorem make_ok (s : Bool) (a : Option Addr) (n cap m z : Nat) (x : Int) (w : World) (h : Num w a n m) (hm : 0 < m) (hT : Tb w) (hz : Tz m z) (hz2 : z < 524288) (hcap : n ≤ cap) (hcap2 : cap ≤ 9223372036854775807) (hx : -1073741824 ≤ x + z ∧ x + z ≤ 1073741824) :
  Calls Tryd.prog 11 #[.bool s,.agg #[.slice a n cap],.int .i64 x] w fun e w' => (∃ A N C,e = .returned (.tuple #[.agg #[.bool s,.slice A N C,.int .i64 (x + (z : Int))],.int .i64 0]) ∧ Mine w' w.heap.size A N C (m / 2 ^ z)) ∧ Below w.heap.size w w' := by
 have hn0 : 0 < n := by have := h.zero; omega
 have H := hide h
 have HM := hide hm
 have HT := hide hT
 have HZ := hide hz
 clear h hm hT hz
 go_enter Tryd.func11,Tryd.ntmps11
 go_wp2_with fail
 refine (check_num a n cap m _ (((unhide H).alloc _).alloc _)).mono ?_
 rintro e w1 ⟨rfl,hb1⟩
 have hS := (Fs.two w _ _ _ _).kept hb1
 obtain ⟨⟨z1_0_0,-⟩,⟨z1_1_0,z1_1_1,z1_1_2,-⟩,-⟩ := hS.cells
 go_wp2_with fail
 refine (isNought_no a n cap hn0 _).mono ?_
 rintro e w2 ⟨rfl,hb2⟩
 replace hS := hS.kept hb2
 clear z1_0_0 z1_1_0 z1_1_1 z1_1_2
 obtain ⟨⟨z2_0_0,-⟩,⟨z2_1_0,z2_1_1,z2_1_2,-⟩,-⟩ := hS.cells
 go_wp2_with fail
 refine (twosIn_z a n cap m z _ ((unhide H).kept hS.fr) (unhide HM) ((unhide HT).kept hS.fr) (unhide HZ)).mono ?_
 rintro e w3 ⟨rfl,hb3⟩
 replace hS := hS.kept hb3
 clear z2_0_0 z2_1_0 z2_1_1 z2_1_2
 obtain ⟨⟨z3_0_0,-⟩,⟨z3_1_0,z3_1_1,z3_1_2,-⟩,-⟩ := hS.cells
 have hltw3_0 : w.heap.size < w3.heap.size := block_lt (hS.bx ⟨w.heap.size,#[.slice a n cap],24⟩ (by simp))
 have hltw3_1 : w.heap.size + 1 < w3.heap.size := block_lt (hS.bx ⟨w.heap.size + 1,#[.bool false,.slice none 0 0,.int .i64 0],26⟩ (by simp))
 go_wp2_with fail
 refine (down_any a n cap m z _ ((unhide H).kept hS.fr) hcap hcap2 (by omega)).mono ?_
 rintro e w4 ⟨⟨A4,N4,C4,rfl,f4⟩,hb4⟩
 replace hS := hS.kept hb4
 clear z3_0_0 z3_1_0 z3_1_1 z3_1_2
 obtain ⟨⟨z4_0_0,-⟩,⟨z4_1_0,z4_1_1,z4_1_2,-⟩,-⟩ := hS.cells
 have hltw4_0 : w.heap.size < w4.heap.size := block_lt (hS.bx ⟨w.heap.size,#[.slice a n cap],24⟩ (by simp))
 have hltw4_1 : w.heap.size + 1 < w4.heap.size := block_lt (hS.bx ⟨w.heap.size + 1,#[.bool false,.slice none 0 0,.int .i64 0],26⟩ (by simp))
 have F4 := hide f4
 clear f4
 have fz0 := hS.frozen (b := w.heap.size + 1) (cs := #[.bool false,.slice none 0 0,.int .i64 0]) (t := 26) (by simp) 0
 have fz1 := hS.frozen (b := w.heap.size + 1) (cs := #[.bool false,.slice none 0 0,.int .i64 0]) (t := 26) (by simp) 1
 have fz2 := hS.frozen (b := w.heap.size + 1) (cs := #[.bool false,.slice none 0 0,.int .i64 0]) (t := 26) (by simp) 2
 go_wp2
 have hB := fun u0 u1 u2 => ((hS.fr.setCell (p := ⟨w.heap.size + 1,0,none⟩) (by simp) u0).setCell (p := ⟨w.heap.size + 1,1,none⟩) (by simp) u1).setCell (p := ⟨w.heap.size + 1,2,none⟩) (by simp) u2
 exact bodyPost_ret (v := .tuple #[.agg #[.bool s,.slice A4 N4 C4,.int .i64 (x + (z : Int))],.int .i64 0]) (by simp [results,Tryd.results11,go_sem,z4_1_0,z4_1_1,z4_1_2,hltw4_1]) rfl
  ⟨⟨_,_,_,rfl,(((((unhide F4).set (by exact hltw3_1) _).set (by exact hltw3_1) _).set (by exact hltw3_1) _).alloc _).mono (by omega)⟩,(hB _ _ _).alloc (hB _ _ _).size _⟩
end Go.Proofs.YtecmcjlgknfnlaaDoor
namespace Go.Proofs.YtecmcjlgknfnlaaDoor
open Go.RowKit
theorem Mine.room {w : World} {base : Nat} {a : Option Addr} {n c m : Nat} (h : Mine w base a n c m) : n ≤ c ∧ c ≤ 9223372036854775807 := by
 obtain ⟨xs,_,ho,_⟩ := h
 rcases ho with ⟨e,_⟩ | ⟨g',cap',cur,e,hg,hh,h1,h2,h3,hc⟩
 ·cases e; omega
 ·cases e; omega
end Go.Proofs.YtecmcjlgknfnlaaDoor
