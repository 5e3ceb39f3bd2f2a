/- Of what ExactBitsRow stands on: RefLow ExBits ExRef ExBitsW. -/
import Derived.Test.YtjemjhaphannaaaPap
import Derived.Test.YtjemjhaphannaaaPal
import Derived.Deep.RegionWith
import Derived.Test.YtjemjhaphannaaaPab
namespace Go.Proofs.Ytjemjhaphannaaa
open Go.RowKit
theorem ret_low {a b : Int} {v : Value} (h : a = b) : Ending.returned (.tuple #[.int .u64 a,v]) = .returned (.tuple #[.int .u64 b,v]) := by rw [h]
set_option maxHeartbeats 400000 in
theorem rlow_small (a : Option Addr) (n cap m : Nat) (w : World) (h : Num w a n m) (hn2 : n ≤ 2) :
  Calls Try.prog 14 #[.agg #[.slice a n cap]] w fun e w' => e = .returned (.tuple #[.int .u64 (m : Int),.bool true]) ∧ Below w.heap.size w w' := by
 have HK := hide (fun (o1 : Obj) => rcheck_num a n cap m (w.alloc o1) (h.alloc o1))
 obtain ⟨xs,hn,hl,hw,hN,hv,hb⟩ := h
 obtain ⟨x,hxx⟩ : ∃ x,x = xs[0]?.getD 0 := ⟨_,rfl⟩
 obtain ⟨y,hyy⟩ : ∃ y,y = xs[1]?.getD 0 := ⟨_,rfl⟩
 have hx1 : x < 4294967296 := by rw [hxx]; exact Pl.wf_at hw _
 have hy1 : y < 4294967296 := by rw [hyy]; exact Pl.wf_at hw _
 have HM : Hid (y * 4294967296 + x = m) := hide (by
  rw [hxx,hyy,← hv]
  match xs,hn with
  | [],_ => rfl
  | [p],_ => simp [Pl.val]
  | [p,q],_ => simp [Pl.val]; omega
  | _ :: _ :: _ :: _,hn => simp at hn; omega)
 have L0 : ∀ (W : World) (_ : Lim W a xs),Calls Try.prog 29 #[.slice a n cap,.int .i64 0] W fun e w' => e = .returned (.int .u64 ((xs[0]?.getD 0 : Nat) : Int)) ∧ w' = W := fun W h => (rlimb_any a n cap 0 xs W hn h hw (by omega)).mono (fun e w' ⟨h1,h2⟩ => ⟨h1,h2.symm⟩)
 have L1 : ∀ (W : World) (_ : Lim W a xs),Calls Try.prog 29 #[.slice a n cap,.int .i64 1] W fun e w' => e = .returned (.int .u64 ((xs[1]?.getD 0 : Nat) : Int)) ∧ w' = W := fun W h => (rlimb_any a n cap 1 xs W hn h hw (by omega)).mono (fun e w' ⟨h1,h2⟩ => ⟨h1,h2.symm⟩)
 rw [← hxx] at L0
 rw [← hyy] at L1
 have HL0 := hide L0
 have HL1 := hide L1
 have HL := hide hl
 clear hxx hyy L0 L1 hl hn hv hN
 go_enter Try.func14,Try.ntmps14
 go_wp2_with fail
 refine (unhide HK _).mono ?_
 rintro e w1 ⟨rfl,hb1⟩
 have hbx := (Box.made w (.slice a n cap)).kept hb1
 have hcx := hbx.cell
 have HB := hide (gr_trans (gr_alloc w (.cells #[.slice a n cap] 26)) hb1)
 have HLW := hide (fun nq : Nat => (unhide HL).below (below_drewN (unhide HB) nq))
 clear hb1 hbx
 go_wp2_with fail
 go_quiet (first | (go_at_call_of 29 (Value.int .i64 0); exact Calls.quiet_of_same (unhide HL0 _ (unhide HLW _))) | (go_at_call_of 29 (Value.int .i64 1); exact Calls.quiet_of_same (unhide HL1 _ (unhide HLW _))))
 go_wp2
 go_ret2
 refine ⟨ret_low ?_,below_drewN (unhide HB) _⟩
 rw [or_limb2 y x hy1 hx1,unhide HM]
end Go.Proofs.Ytjemjhaphannaaa
namespace Go.Proofs.Ytjemjhaphannaaa
open Go.RowKit
set_option maxHeartbeats 400000 in
theorem fields_any (s : Bool) (N st F h fr : Nat) (w : World) (hF : F ≤ 52) (hst : st ≤ 4096) (hh : h ≤ 1) (HH : Hid (h = N / 2 ^ F)) (HR : Hid (fr = N - h * 2 ^ F)) (hN : N < 18446744073709551616) :
  Calls Try.prog 20 #[.bool s,.int .u64 N,.int .i64 st,.int .i64 F] w fun e w' => e = .returned (.agg #[.bool s,.int .i64 ((st : Int) + (h : Int)),.int .u64 fr]) ∧ Below w.heap.size w w' := by
 have hpF := pow_bound (show F ≤ 52 from hF)
 have hp0 := pow_pos2 F
 have hle : h * 2 ^ F ≤ N := by rw [unhide HH]; exact Nat.div_mul_le_self _ _
 have e1 : ((N : Int) / 2 ^ F) = (h : Int) := by rw [unhide HH]; simp
 have e4 : IntKind.u64.wrap ((h : Int) * 2 ^ F) = (h : Int) * 2 ^ F := by
  rw [show ((h : Int) * 2 ^ F) = ((h * 2 ^ F : Nat) : Int) from by simp,IntKind.wrap_u64]; omega
 have e5 : IntKind.u64.wrap ((N : Int) - (h : Int) * 2 ^ F) = (fr : Int) := by
  rw [show ((h : Int) * 2 ^ F) = ((h * 2 ^ F : Nat) : Int) from by simp,unhide HR,IntKind.wrap_u64]; omega
 go_enter Try.func20,Try.ntmps20
 go_wp2
 exact bodyPost_ret (v := .agg #[.bool s,.int .i64 ((st : Int) + (h : Int)),.int .u64 fr]) (by simp [results,Try.results20,go_sem]) rfl ⟨rfl,(Fs.one w _ _).fr⟩
theorem bits_k (a : Option Addr) (n cap m k : Nat) (w : World) (h : Num w a n m) (hk : Bl m k) :
  Calls Try.prog 17 #[.agg #[.slice a n cap]] w fun e w' => e = .returned (.tuple #[.int .i64 (k : Int),.int .i64 0]) ∧ Below w.heap.size w w' := by
 refine (bits_any a n cap m w h).mono ?_
 rintro e w' ⟨⟨j,rfl,hj,_⟩,hb⟩
 obtain rfl := hj.uniq hk
 exact ⟨rfl,hb⟩
theorem rbits_k (a : Option Addr) (n cap m k : Nat) (w : World) (h : Num w a n m) (hk : Bl m k) :
  Calls Try.prog 12 #[.agg #[.slice a n cap]] w fun e w' => e = .returned (.tuple #[.int .i64 (k : Int),.int .i64 0]) ∧ Below w.heap.size w w' := by
 refine (rbits_any a n cap m w h).mono ?_
 rintro e w' ⟨⟨j,rfl,hj,_⟩,hb⟩
 obtain rfl := hj.uniq hk
 exact ⟨rfl,hb⟩
theorem dcheck_nought (a : Option Addr) (cap : Nat) (w : World) (h : Num w a 0 0) :
  Calls Try.prog 7 #[.agg #[.bool false,.slice a 0 cap,.int .i64 0]] w fun e w' => e = .returned (.int .i64 0) ∧ Below w.heap.size w w' := by
 have := dcheck_nil false a cap 0 w h
 simpa using this
theorem drcheck_nought (a : Option Addr) (cap : Nat) (w : World) (h : Num w a 0 0) :
  Calls Try.prog 8 #[.agg #[.bool false,.slice a 0 cap,.int .i64 0]] w fun e w' => e = .returned (.int .i64 0) ∧ Below w.heap.size w w' := by
 have := drcheck_nil false a cap 0 w h
 simpa using this
set_option maxHeartbeats 400000 in
theorem Bits_form (E F : Int) (hbad : NoFo E F) (s : Bool) (a : Option Addr) (n cap : Nat) (x : Int) (w : World)  :
  Calls Try.prog 6 #[.agg #[.int .i64 E,.int .i64 F],.agg #[.bool s,.slice a n cap,.int .i64 x]] w fun e w' => e = .returned (.tuple #[.int .u64 0,.bool false,.int .i64 5]) ∧ Below w.heap.size w w' := by
 have HB := hide hbad
 clear hbad
 go_enter Try.func6,Try.ntmps6
 go_wp2_with fail
 refine (Range_bad _ _ (unhide HB) _).mono ?_
 rintro e w1 ⟨rfl,hb1⟩
 have hS := (Fs.two w _ _ _ _).kept hb1
 obtain ⟨⟨z1_0_0,z1_0_1,-⟩,⟨z1_1_0,z1_1_1,z1_1_2,-⟩,-⟩ := hS.cells
 go_wp2
 exact bodyPost_ret (v := .tuple #[.int .u64 0,.bool false,.int .i64 5]) (by simp [results,Try.results6,go_sem]) rfl ⟨rfl,hS.fr⟩
set_option maxHeartbeats 400000 in
theorem Bits_err (E F B : Nat) (h0 : Fo E F) (HB : Hid (B = 2 ^ (E - 1) - 1)) (s : Bool) (a : Option Addr) (n cap : Nat) (xs : List Nat) (x : Int) (w : World) (hn : xs.length = n) (hbig : n ≤ 9223372036854775807) (hl : Lim w a xs) (hw : Pl.Wf xs) (hc : dck s xs x ≠ 0) :
  Calls Try.prog 6 #[.agg #[.int .i64 E,.int .i64 F],.agg #[.bool s,.slice a n cap,.int .i64 x]] w fun e w' => e = .returned (.tuple #[.int .u64 0,.bool false,.int .i64 (dck s xs x)]) ∧ Below w.heap.size w w' := by
 have hcb : (dck s xs x != 0) = true := by simpa using hc
 have HL := hide hl
 have HW := hide hw
 have H0 := hide h0
 clear hl hc hw h0
 go_enter Try.func6,Try.ntmps6
 go_wp2_with fail
 refine (Range_ok _ _ B (unhide H0) HB _).mono ?_
 rintro e w1 ⟨rfl,hb1⟩
 have hS := (Fs.two w _ _ _ _).kept hb1
 obtain ⟨⟨z1_0_0,z1_0_1,-⟩,⟨z1_1_0,z1_1_1,z1_1_2,-⟩,-⟩ := hS.cells
 go_wp2_with fail
 refine (dcheck_any s a n cap xs x _ hn hbig ((unhide HL).below hS.fr) (unhide HW)).mono ?_
 rintro e w2 ⟨rfl,hb2⟩
 replace hS := hS.kept hb2
 clear z1_0_0 z1_0_1 z1_1_0 z1_1_1 z1_1_2
 obtain ⟨⟨z2_0_0,z2_0_1,-⟩,⟨z2_1_0,z2_1_1,z2_1_2,-⟩,-⟩ := hS.cells
 go_wp2
 exact bodyPost_ret (v := .tuple #[.int .u64 0,.bool false,.int .i64 (dck s xs x)]) (by simp [results,Try.results6,go_sem]) rfl ⟨rfl,hS.fr⟩
set_option maxHeartbeats 400000 in
theorem Bits_nought (E F B : Nat) (h0 : Fo E F) (HB : Hid (B = 2 ^ (E - 1) - 1)) (a : Option Addr) (cap : Nat) (w : World) (h : Num w a 0 0) :
  Calls Try.prog 6 #[.agg #[.int .i64 E,.int .i64 F],.agg #[.bool false,.slice a 0 cap,.int .i64 0]] w fun e w' => e = .returned (.tuple #[.int .u64 0,.bool true,.int .i64 0]) ∧ Below w.heap.size w w' := by
 have H := hide h
 have H0 := hide h0
 clear h h0
 go_enter Try.func6,Try.ntmps6
 go_wp2_with fail
 refine (Range_ok _ _ B (unhide H0) HB _).mono ?_
 rintro e w1 ⟨rfl,hb1⟩
 have hS := (Fs.two w _ _ _ _).kept hb1
 obtain ⟨⟨z1_0_0,z1_0_1,-⟩,⟨z1_1_0,z1_1_1,z1_1_2,-⟩,-⟩ := hS.cells
 go_wp2_with fail
 refine (dcheck_nought a cap _ ((unhide H).kept hS.fr)).mono ?_
 rintro e w2 ⟨rfl,hb2⟩
 replace hS := hS.kept hb2
 clear z1_0_0 z1_0_1 z1_1_0 z1_1_1 z1_1_2
 obtain ⟨⟨z2_0_0,z2_0_1,-⟩,⟨z2_1_0,z2_1_1,z2_1_2,-⟩,-⟩ := hS.cells
 go_wp2_with fail
 refine (bits_k a 0 cap 0 0 _ ((unhide H).kept hS.fr) bl_zero).mono ?_
 rintro e w3 ⟨rfl,hb3⟩
 replace hS := hS.kept hb3
 clear z2_0_0 z2_0_1 z2_1_0 z2_1_1 z2_1_2
 obtain ⟨⟨z3_0_0,z3_0_1,-⟩,⟨z3_1_0,z3_1_1,z3_1_2,-⟩,-⟩ := hS.cells
 go_wp2
 exact bodyPost_ret (v := .tuple #[.int .u64 0,.bool true,.int .i64 0]) (by simp [results,Try.results6,go_sem]) rfl ⟨rfl,hS.fr⟩
theorem B_le {E F B : Nat} (h : Fo E F) (HB : Hid (B = 2 ^ (E - 1) - 1)) : B ≤ 1023 := by
 have h1 := pow_bound (show E - 1 ≤ 10 by have := h.e11; omega)
 rw [unhide HB]; omega
theorem B_two {E F B : Nat} (h : Fo E F) (HB : Hid (B = 2 ^ (E - 1) - 1)) : 2 ^ E = 2 * B + 2 ∧ 1 ≤ B := by
 have h2 := h.e2
 obtain ⟨k,rfl⟩ : ∃ k,E = k + 2 := ⟨E - 2,by omega⟩
 have := unhide HB
 rw [show k + 2 - 1 = k + 1 from by omega] at this
 have h3 := pow_pos2 k
 rw [Nat.pow_succ] at this ⊢
 rw [Nat.pow_succ]
 omega
set_option maxHeartbeats 1000000 in
theorem Bits_over (E F B : Nat) (h0 : Fo E F) (HB : Hid (B = 2 ^ (E - 1) - 1)) (s : Bool) (a : Option Addr) (n cap m k : Nat) (x : Int)  (w : World) (h : Num w a n m) (hn : 0 < n) (hm : m % 2 = 1) (hx : -1073741824 ≤ x ∧ x ≤ 1073741824) (hk : Bl m k) (hk2 : k ≤ 524288) (hk1 : 0 < k) (hov : (B : Int) < x + k - 1) :
  Calls Try.prog 6 #[.agg #[.int .i64 E,.int .i64 F],.agg #[.bool s,.slice a n cap,.int .i64 x]] w fun e w' => e = .returned (.tuple #[.int .u64 0,.bool false,.int .i64 0]) ∧ Below w.heap.size w w' := by
 have H := hide h
 have HM := hide hm
 have HK := hide hk
 have hB : B ≤ 1023 := B_le h0 HB
 have hF := h0.f52
 have hF1 := h0.f1
 have H0 := hide h0
 clear h h0 hm hk
 go_enter Try.func6,Try.ntmps6
 go_wp2_with fail
 refine (Range_ok _ _ B (unhide H0) HB _).mono ?_
 rintro e w1 ⟨rfl,hb1⟩
 have hS := (Fs.two w _ _ _ _).kept hb1
 obtain ⟨⟨z1_0_0,z1_0_1,-⟩,⟨z1_1_0,z1_1_1,z1_1_2,-⟩,-⟩ := hS.cells
 go_wp2_with fail
 refine (dcheck_ok s a n cap m x _ ((unhide H).kept hS.fr) hn (unhide HM) hx).mono ?_
 rintro e w2 ⟨rfl,hb2⟩
 replace hS := hS.kept hb2
 clear z1_0_0 z1_0_1 z1_1_0 z1_1_1 z1_1_2
 obtain ⟨⟨z2_0_0,z2_0_1,-⟩,⟨z2_1_0,z2_1_1,z2_1_2,-⟩,-⟩ := hS.cells
 go_wp2_with fail
 refine (bits_k a n cap m k _ ((unhide H).kept hS.fr) (unhide HK)).mono ?_
 rintro e w3 ⟨rfl,hb3⟩
 replace hS := hS.kept hb3
 clear z2_0_0 z2_0_1 z2_1_0 z2_1_1 z2_1_2
 obtain ⟨⟨z3_0_0,z3_0_1,-⟩,⟨z3_1_0,z3_1_1,z3_1_2,-⟩,-⟩ := hS.cells
 go_wp2
 exact bodyPost_ret (v := .tuple #[.int .u64 0,.bool false,.int .i64 0]) (by simp [results,Try.results6,go_sem]) rfl ⟨rfl,hS.fr⟩
set_option maxHeartbeats 1000000 in
theorem Bits_under (E F B : Nat) (h0 : Fo E F) (HB : Hid (B = 2 ^ (E - 1) - 1)) (s : Bool) (a : Option Addr) (n cap m k : Nat) (x : Int) (t : Int) (w : World) (h : Num w a n m) (hn : 0 < n) (hm : m % 2 = 1) (hx : -1073741824 ≤ x ∧ x ≤ 1073741824) (hk : Bl m k) (hk2 : k ≤ 524288) (hk1 : 0 < k) (hov : x + k - 1 ≤ (B : Int)) (hat : max (1 - (B : Int) - (F : Int)) (x + (k : Int) - 1 - (F : Int)) = t) (hlt : x < t) :
  Calls Try.prog 6 #[.agg #[.int .i64 E,.int .i64 F],.agg #[.bool s,.slice a n cap,.int .i64 x]] w fun e w' => e = .returned (.tuple #[.int .u64 0,.bool false,.int .i64 0]) ∧ Below w.heap.size w w' := by
 have H := hide h
 have HM := hide hm
 have HK := hide hk
 have hB : B ≤ 1023 := B_le h0 HB
 have hF := h0.f52
 have hF1 := h0.f1
 have H0 := hide h0
 clear h h0 hm hk
 go_enter Try.func6,Try.ntmps6
 go_wp2_with fail
 refine (Range_ok _ _ B (unhide H0) HB _).mono ?_
 rintro e w1 ⟨rfl,hb1⟩
 have hS := (Fs.two w _ _ _ _).kept hb1
 obtain ⟨⟨z1_0_0,z1_0_1,-⟩,⟨z1_1_0,z1_1_1,z1_1_2,-⟩,-⟩ := hS.cells
 go_wp2_with fail
 refine (dcheck_ok s a n cap m x _ ((unhide H).kept hS.fr) hn (unhide HM) hx).mono ?_
 rintro e w2 ⟨rfl,hb2⟩
 replace hS := hS.kept hb2
 clear z1_0_0 z1_0_1 z1_1_0 z1_1_1 z1_1_2
 obtain ⟨⟨z2_0_0,z2_0_1,-⟩,⟨z2_1_0,z2_1_1,z2_1_2,-⟩,-⟩ := hS.cells
 go_wp2_with fail
 refine (bits_k a n cap m k _ ((unhide H).kept hS.fr) (unhide HK)).mono ?_
 rintro e w3 ⟨rfl,hb3⟩
 replace hS := hS.kept hb3
 clear z2_0_0 z2_0_1 z2_1_0 z2_1_1 z2_1_2
 obtain ⟨⟨z3_0_0,z3_0_1,-⟩,⟨z3_1_0,z3_1_1,z3_1_2,-⟩,-⟩ := hS.cells
 go_wp2
 exact bodyPost_ret (v := .tuple #[.int .u64 0,.bool false,.int .i64 0]) (by simp [results,Try.results6,go_sem]) rfl ⟨rfl,hS.fr⟩
theorem fields_ex (s : Bool) (N st F h fr ex : Nat) (w : World) (hF : F ≤ 52) (hst : st ≤ 4096) (hh : h ≤ 1) (HH : Hid (h = N / 2 ^ F)) (HR : Hid (fr = N - h * 2 ^ F)) (hN : N < 18446744073709551616) (hex : Hid (ex = st + h)) :
  Calls Try.prog 20 #[.bool s,.int .u64 N,.int .i64 st,.int .i64 F] w fun e w' => e = .returned (.agg #[.bool s,.int .i64 (ex : Int),.int .u64 fr]) ∧ Below w.heap.size w w' := by
 obtain rfl := unhide hex
 exact fields_any s N st F h fr w hF hst hh HH HR hN
set_option maxHeartbeats 1000000 in
theorem Bits_some (E F B : Nat) (h0 : Fo E F) (HB : Hid (B = 2 ^ (E - 1) - 1)) (s : Bool) (a : Option Addr) (n cap m k : Nat) (x : Int) (t : Int) (j N st h1 fr ex b : Nat) (w : World) (h : Num w a n m) (hn : 0 < n) (hm : m % 2 = 1) (hx : -1073741824 ≤ x ∧ x ≤ 1073741824) (hk : Bl m k) (hk2 : k ≤ 524288) (hk1 : 0 < k) (hov : x + k - 1 ≤ (B : Int)) (hat : max (1 - (B : Int) - (F : Int)) (x + (k : Int) - 1 - (F : Int)) = t) (hlt : t ≤ x) (hj : x - t = (j : Int)) (hj52 : j ≤ 52) (hN : N < 18446744073709551616) (eN : IntKind.u64.wrap ((m : Int) * 2 ^ j) = (N : Int)) (hn2 : n ≤ 2) (hst2 : st ≤ 4096) (hst : t - (1 - (B : Int) - (F : Int)) = (st : Int)) (hh1 : h1 ≤ 1) (HH : Hid (h1 = N / 2 ^ F)) (HR : Hid (fr = N - h1 * 2 ^ F)) (HE : Hid (ex = st + h1)) (HBt : Hid (Bt E F b s ex fr)) :
  Calls Try.prog 6 #[.agg #[.int .i64 E,.int .i64 F],.agg #[.bool s,.slice a n cap,.int .i64 x]] w fun e w' => e = .returned (.tuple #[.int .u64 b,.bool true,.int .i64 0]) ∧ Below w.heap.size w w' := by
 have H := hide h
 have HM := hide hm
 have HK := hide hk
 have hB : B ≤ 1023 := B_le h0 HB
 have hF := h0.f52
 have hF1 := h0.f1
 have H0 := hide h0
 clear h h0 hm hk
 go_enter Try.func6,Try.ntmps6
 go_wp2_with fail
 refine (Range_ok _ _ B (unhide H0) HB _).mono ?_
 rintro e w1 ⟨rfl,hb1⟩
 have hS := (Fs.two w _ _ _ _).kept hb1
 obtain ⟨⟨z1_0_0,z1_0_1,-⟩,⟨z1_1_0,z1_1_1,z1_1_2,-⟩,-⟩ := hS.cells
 go_wp2_with fail
 refine (dcheck_ok s a n cap m x _ ((unhide H).kept hS.fr) hn (unhide HM) hx).mono ?_
 rintro e w2 ⟨rfl,hb2⟩
 replace hS := hS.kept hb2
 clear z1_0_0 z1_0_1 z1_1_0 z1_1_1 z1_1_2
 obtain ⟨⟨z2_0_0,z2_0_1,-⟩,⟨z2_1_0,z2_1_1,z2_1_2,-⟩,-⟩ := hS.cells
 go_wp2_with fail
 refine (bits_k a n cap m k _ ((unhide H).kept hS.fr) (unhide HK)).mono ?_
 rintro e w3 ⟨rfl,hb3⟩
 replace hS := hS.kept hb3
 clear z2_0_0 z2_0_1 z2_1_0 z2_1_1 z2_1_2
 obtain ⟨⟨z3_0_0,z3_0_1,-⟩,⟨z3_1_0,z3_1_1,z3_1_2,-⟩,-⟩ := hS.cells
 go_wp2_with fail
 refine (low_small a n cap m _ ((unhide H).kept hS.fr) hn2).mono ?_
 rintro e w4 ⟨rfl,hb4⟩
 replace hS := hS.kept hb4
 clear z3_0_0 z3_0_1 z3_1_0 z3_1_1 z3_1_2
 obtain ⟨⟨z4_0_0,z4_0_1,-⟩,⟨z4_1_0,z4_1_1,z4_1_2,-⟩,-⟩ := hS.cells
 go_wp2_with fail
 refine wp_region_any (by kernel_rfl) ?_
 refine wpAny_det [some (75,.agg #[.int .i64 E,.int .i64 F]),some (76,.pointer (some ⟨w.heap.size + 1,0,none⟩)),some (77,.bool s),some (78,.int .u64 N),some (79,.int .i64 t),some (80,.int .i64 (1 - (B : Int) - (F : Int))),some (81,.int .i64 st),some (82,.pointer (some ⟨w.heap.size,1,none⟩)),some (83,.int .i64 F),some (84,.agg #[.bool s,.int .i64 ex,.int .u64 fr]),some (85,.tuple #[.int .u64 b,.int .i64 0]),some (74,.tuple #[.int .u64 b,.int .i64 0]),some (86,.int .u64 b),some (87,.int .i64 0),some (16,.int .u64 b),some (9,.int .i64 0)]
  (fun _ W9 => Fs w W9 [⟨w.heap.size,#[.int .i64 E,.int .i64 F],23⟩,⟨w.heap.size + 1,#[.bool s,.slice a n cap,.int .i64 x],28⟩]) _ _ rfl (by kernel_rfl) rfl rfl ?_ ?_ (hS).drew
 ·intro l9 t9 W9 i9 hD hi9 hl9 hM
  obtain ⟨o9,ho9,hd9⟩ := (mem_ready.1 hi9).2
  have hin9 : i9 < 16 := by
   by_cases h : i9 < 16
   ·exact h
   ·rw [Array.getElem?_eq_none (by rw [hD.len]; simp; omega)] at hl9; cases hl9
  have hcase : i9 = 0 ∨ i9 = 1 ∨ i9 = 2 ∨ i9 = 3 ∨ i9 = 4 ∨ i9 = 5 ∨ i9 = 6 ∨ i9 = 7 ∨ i9 = 8 ∨ i9 = 9 ∨ i9 = 10 ∨ i9 = 11 ∨ i9 = 12 ∨ i9 = 13 ∨ i9 = 14 ∨ i9 = 15 := by omega
  clear hin9
  rcases hcase with rfl | rfl | rfl | rfl | rfl | rfl | rfl | rfl | rfl | rfl | rfl | rfl | rfl | rfl | rfl | rfl
  ·cases ho9
   have r2 := hD.old 2 _ rfl rfl
   have hM0 := hM
   have c9_0 := hM0.cellAt (b := w.heap.size) (cs := #[.int .i64 E,.int .i64 F]) (t := 23) (by simp) 0 _ rfl
   have c9_1 := hM0.cellAt (b := w.heap.size) (cs := #[.int .i64 E,.int .i64 F]) (t := 23) (by simp) 1 _ rfl
   clear hM0
   clear hD hd9 hi9
   refine wpOp_step rfl (fun K hK => ?_)
   go_simp
   exact hK _ _ ⟨rfl,hM⟩
  ·cases ho9
   have r3 := hD.old 3 _ rfl rfl
   clear hD hd9 hi9
   refine wpOp_step rfl (fun K hK => ?_)
   go_simp
   exact hK _ _ ⟨rfl,hM⟩
  ·cases ho9
   have r76 := hD.on 1 76 _ rfl (getD_true (hd9 ⟨1,.data⟩ (by simp) rfl))
   have hM0 := hM
   have c9_0 := hM0.cellAt (b := w.heap.size + 1) (cs := #[.bool s,.slice a n cap,.int .i64 x]) (t := 28) (by simp) 0 _ rfl
   clear hM0
   clear hD hd9 hi9
   refine wpOp_step rfl (fun K hK => ?_)
   go_simp
   exact hK _ _ ⟨rfl,hM⟩
  ·cases ho9
   have r14 := hD.old 14 _ rfl rfl
   clear hD hd9 hi9
   refine wpOp_step rfl (fun K hK => ?_)
   go_simp
   exact hK _ _ ⟨rfl,hM⟩
  ·cases ho9
   have r13 := hD.old 13 _ rfl rfl
   clear hD hd9 hi9
   refine wpOp_step rfl (fun K hK => ?_)
   go_simp
   exact hK _ _ ⟨rfl,hM⟩
  ·cases ho9
   have r7 := hD.old 7 _ rfl rfl
   clear hD hd9 hi9
   refine wpOp_step rfl (fun K hK => ?_)
   go_simp
   exact hK _ _ ⟨rfl,hM⟩
  ·cases ho9
   have r79 := hD.on 4 79 _ rfl (getD_true (hd9 ⟨4,.data⟩ (by simp) rfl))
   have r80 := hD.on 5 80 _ rfl (getD_true (hd9 ⟨5,.data⟩ (by simp) rfl))
   clear hD hd9 hi9
   refine wpOp_step rfl (fun K hK => ?_)
   go_simp
   exact hK _ _ ⟨act_eq (by (show Value.int _ _ = Value.int _ _; congr 1; (first | rfl | omega | (rw [IntKind.wrap_i64]; omega) | (rw [IntKind.wrap_u64]; omega)))),hM⟩
  ·cases ho9
   have r2 := hD.old 2 _ rfl rfl
   clear hD hd9 hi9
   refine wpOp_step rfl (fun K hK => ?_)
   go_simp
   exact hK _ _ ⟨rfl,hM⟩
  ·cases ho9
   have r82 := hD.on 7 82 _ rfl (getD_true (hd9 ⟨7,.data⟩ (by simp) rfl))
   have hM0 := hM
   have c9_0 := hM0.cellAt (b := w.heap.size) (cs := #[.int .i64 E,.int .i64 F]) (t := 23) (by simp) 1 _ rfl
   clear hM0
   clear hD hd9 hi9
   refine wpOp_step rfl (fun K hK => ?_)
   go_simp
   exact hK _ _ ⟨rfl,hM⟩
  ·cases ho9
   have r77 := hD.on 2 77 _ rfl (getD_true (hd9 ⟨2,.data⟩ (by simp) rfl))
   have r78 := hD.on 3 78 _ rfl (getD_true (hd9 ⟨3,.data⟩ (by simp) rfl))
   have r81 := hD.on 6 81 _ rfl (getD_true (hd9 ⟨6,.data⟩ (by simp) rfl))
   have r83 := hD.on 8 83 _ rfl (getD_true (hd9 ⟨8,.data⟩ (by simp) rfl))
   clear hD hd9 hi9
   refine wpOp_step rfl (fun K hK => ?_)
   go_simp
   go_wp2_with fail
   refine (fields_ex s N st F h1 fr ex _ hF hst2 hh1 HH HR hN HE).mono ?_
   rintro en w9 ⟨rfl,hb9⟩
   exact hK _ _ ⟨rfl,hM.kept hb9⟩
  ·cases ho9
   have r75 := hD.on 0 75 _ rfl (getD_true (hd9 ⟨0,.data⟩ (by simp) rfl))
   have r84 := hD.on 9 84 _ rfl (getD_true (hd9 ⟨9,.data⟩ (by simp) rfl))
   clear hD hd9 hi9
   refine wpOp_step rfl (fun K hK => ?_)
   go_simp
   go_wp2_with fail
   refine (Join_ok E F b ex fr s (unhide H0) (unhide HBt) _).mono ?_
   rintro en w9 ⟨rfl,hb9⟩
   exact hK _ _ ⟨rfl,hM.kept hb9⟩
  ·cases ho9
   have r85 := hD.on 10 85 _ rfl (getD_true (hd9 ⟨10,.data⟩ (by simp) rfl))
   clear hD hd9 hi9
   refine wpOp_step rfl (fun K hK => ?_)
   go_simp
   exact hK _ _ ⟨rfl,hM⟩
  ·cases ho9
   have r74 := hD.on 11 74 _ rfl (getD_true (hd9 ⟨11,.data⟩ (by simp) rfl))
   clear hD hd9 hi9
   refine wpOp_step rfl (fun K hK => ?_)
   go_simp
   exact hK _ _ ⟨rfl,hM⟩
  ·cases ho9
   have r74 := hD.on 11 74 _ rfl (getD_true (hd9 ⟨11,.data⟩ (by simp) rfl))
   clear hD hd9 hi9
   refine wpOp_step rfl (fun K hK => ?_)
   go_simp
   exact hK _ _ ⟨rfl,hM⟩
  ·cases ho9
   have r86 := hD.on 12 86 _ rfl (getD_true (hd9 ⟨12,.data⟩ (by simp) rfl))
   clear hD hd9 hi9
   refine wpOp_step rfl (fun K hK => ?_)
   go_simp
   exact hK _ _ ⟨rfl,hM⟩
  ·cases ho9
   have r87 := hD.on 13 87 _ rfl (getD_true (hd9 ⟨13,.data⟩ (by simp) rfl))
   clear hD hd9 hi9
   refine wpOp_step rfl (fun K hK => ?_)
   go_simp
   exact hK _ _ ⟨rfl,hM⟩
 ·intro l9 W9 hl9 hM
  clear hl9
  clear hS z4_0_0 z4_0_1 z4_1_0 z4_1_1 z4_1_2
  have hS := hM
  clear hM
  simp only [Puts.lay,List.setIfInBounds_toArray,List.set_cons_zero,List.set_cons_succ]
  obtain ⟨⟨z5_0_0,z5_0_1,-⟩,⟨z5_1_0,z5_1_1,z5_1_2,-⟩,-⟩ := hS.cells
  go_wp2
  exact bodyPost_ret (v := .tuple #[.int .u64 b,.bool true,.int .i64 0]) (by simp [results,Try.results6,go_sem]) rfl ⟨rfl,hS.fr⟩
end Go.Proofs.Ytjemjhaphannaaa
namespace Go.Proofs.Ytjemjhaphannaaa
open Go.RowKit
set_option maxHeartbeats 400000 in
theorem rbias_any (E F B : Nat) (h0 : Fo E F) (HB : Hid (B = 2 ^ (E - 1) - 1)) (w : World)  :
  Calls Try.prog 13 #[.agg #[.int .i64 E,.int .i64 F]] w fun e w' => e = .returned (.int .i64 B) ∧ Below w.heap.size w w' := by
 have h1 := h0.e2
 have h2 := h0.e11
 have HE : Hid (wrap64 (wrap64 (2 ^ (E - 1)) - 1) = (B : Int)) := hide (by
  have h3 := pow_bound (show E - 1 ≤ 10 by omega)
  have h4 := pow_pos2 (E - 1)
  have e : ((2 : Int) ^ (E - 1)) = ((2 ^ (E - 1) : Nat) : Int) := by simp
  rw [unhide HB,e]
  unfold wrap64
  omega)
 clear h0
 go_enter Try.func13,Try.ntmps13
 go_wp2
 go_ret
 exact ⟨ret_i64 (unhide HE),(Fs.one w _ _).fr⟩
set_option maxHeartbeats 400000 in
theorem rmay_bad (E F : Int) (hbad : NoFo E F) (b : Int) (w : World)  :
  Calls Try.prog 10 #[.agg #[.int .i64 E,.int .i64 F],.int .u64 b] w fun e w' => e = .returned (.int .i64 5) ∧ Below w.heap.size w w' := by
 unfold NoFo at hbad
 go_enter Try.func10,Try.ntmps10
 by_cases c1 : E < 2
 ·go_wp2
  go_ret
  exact ⟨rfl,gr_alloc _ _⟩
 by_cases c2 : 11 < E
 ·go_wp2
  go_ret
  exact ⟨rfl,gr_alloc _ _⟩
 by_cases c3 : F < 1
 ·go_wp2
  go_ret
  exact ⟨rfl,gr_alloc _ _⟩
 have c4 : 52 < F := by omega
 clear hbad
 go_wp2
 go_ret
 exact ⟨rfl,gr_alloc _ _⟩
set_option maxHeartbeats 400000 in
theorem rmay_zero (E F : Nat) (h0 : Fo E F) (w : World)  :
  Calls Try.prog 10 #[.agg #[.int .i64 E,.int .i64 F],.int .u64 0] w fun e w' => e = .returned (.int .i64 0) ∧ Below w.heap.size w w' := by
 obtain ⟨h1,h2,h3,h4⟩ := h0
 go_enter Try.func10,Try.ntmps10
 by_cases hs : E + F < 63
 ·go_wp2
  go_ret
  exact ⟨rfl,gr_alloc _ _⟩
 ·go_wp2
  go_ret
  exact ⟨rfl,gr_alloc _ _⟩
set_option maxHeartbeats 400000 in
theorem rBits_form (E F : Int) (hbad : NoFo E F) (s : Bool) (a : Option Addr) (n cap : Nat) (x : Int) (w : World)  :
  Calls Try.prog 4 #[.agg #[.int .i64 E,.int .i64 F],.agg #[.bool s,.slice a n cap,.int .i64 x]] w fun e w' => e = .returned (.tuple #[.int .u64 0,.bool false,.int .i64 5]) ∧ Below w.heap.size w w' := by
 have HB := hide hbad
 clear hbad
 go_enter Try.func4,Try.ntmps4
 go_wp2_with fail
 refine (rmay_bad _ _ (unhide HB) _ _).mono ?_
 rintro e w1 ⟨rfl,hb1⟩
 have hS := (Fs.two w _ _ _ _).kept hb1
 obtain ⟨⟨z1_0_0,z1_0_1,-⟩,⟨z1_1_0,z1_1_1,z1_1_2,-⟩,-⟩ := hS.cells
 go_wp2
 exact bodyPost_ret (v := .tuple #[.int .u64 0,.bool false,.int .i64 5]) (by simp [results,Try.results4,go_sem]) rfl ⟨rfl,hS.fr⟩
set_option maxHeartbeats 400000 in
theorem rBits_err (E F : Nat) (h0 : Fo E F) (s : Bool) (a : Option Addr) (n cap : Nat) (xs : List Nat) (x : Int) (w : World) (hn : xs.length = n) (hbig : n ≤ 9223372036854775807) (hl : Lim w a xs) (hw : Pl.Wf xs) (hc : dck s xs x ≠ 0) :
  Calls Try.prog 4 #[.agg #[.int .i64 E,.int .i64 F],.agg #[.bool s,.slice a n cap,.int .i64 x]] w fun e w' => e = .returned (.tuple #[.int .u64 0,.bool false,.int .i64 (dck s xs x)]) ∧ Below w.heap.size w w' := by
 have hcb : (dck s xs x != 0) = true := by simpa using hc
 have HL := hide hl
 have HW := hide hw
 have H0 := hide h0
 clear hl hc hw h0
 go_enter Try.func4,Try.ntmps4
 go_wp2_with fail
 refine (rmay_zero _ _ (unhide H0) _).mono ?_
 rintro e w1 ⟨rfl,hb1⟩
 have hS := (Fs.two w _ _ _ _).kept hb1
 obtain ⟨⟨z1_0_0,z1_0_1,-⟩,⟨z1_1_0,z1_1_1,z1_1_2,-⟩,-⟩ := hS.cells
 go_wp2_with fail
 refine (drcheck_any s a n cap xs x _ hn hbig ((unhide HL).below hS.fr) (unhide HW)).mono ?_
 rintro e w2 ⟨rfl,hb2⟩
 replace hS := hS.kept hb2
 clear z1_0_0 z1_0_1 z1_1_0 z1_1_1 z1_1_2
 obtain ⟨⟨z2_0_0,z2_0_1,-⟩,⟨z2_1_0,z2_1_1,z2_1_2,-⟩,-⟩ := hS.cells
 go_wp2
 exact bodyPost_ret (v := .tuple #[.int .u64 0,.bool false,.int .i64 (dck s xs x)]) (by simp [results,Try.results4,go_sem]) rfl ⟨rfl,hS.fr⟩
set_option maxHeartbeats 400000 in
theorem rBits_nought (E F : Nat) (h0 : Fo E F) (a : Option Addr) (cap : Nat) (w : World) (h : Num w a 0 0) :
  Calls Try.prog 4 #[.agg #[.int .i64 E,.int .i64 F],.agg #[.bool false,.slice a 0 cap,.int .i64 0]] w fun e w' => e = .returned (.tuple #[.int .u64 0,.bool true,.int .i64 0]) ∧ Below w.heap.size w w' := by
 have H := hide h
 have H0 := hide h0
 clear h h0
 go_enter Try.func4,Try.ntmps4
 go_wp2_with fail
 refine (rmay_zero _ _ (unhide H0) _).mono ?_
 rintro e w1 ⟨rfl,hb1⟩
 have hS := (Fs.two w _ _ _ _).kept hb1
 obtain ⟨⟨z1_0_0,z1_0_1,-⟩,⟨z1_1_0,z1_1_1,z1_1_2,-⟩,-⟩ := hS.cells
 go_wp2_with fail
 refine (drcheck_nought a cap _ ((unhide H).kept hS.fr)).mono ?_
 rintro e w2 ⟨rfl,hb2⟩
 replace hS := hS.kept hb2
 clear z1_0_0 z1_0_1 z1_1_0 z1_1_1 z1_1_2
 obtain ⟨⟨z2_0_0,z2_0_1,-⟩,⟨z2_1_0,z2_1_1,z2_1_2,-⟩,-⟩ := hS.cells
 go_wp2_with fail
 refine (rnone_yes a cap _).mono ?_
 rintro e w3 ⟨rfl,hb3⟩
 replace hS := hS.kept hb3
 clear z2_0_0 z2_0_1 z2_1_0 z2_1_1 z2_1_2
 obtain ⟨⟨z3_0_0,z3_0_1,-⟩,⟨z3_1_0,z3_1_1,z3_1_2,-⟩,-⟩ := hS.cells
 go_wp2
 exact bodyPost_ret (v := .tuple #[.int .u64 0,.bool true,.int .i64 0]) (by simp [results,Try.results4,go_sem]) rfl ⟨rfl,hS.fr⟩
theorem drcheck_good (s : Bool) (a : Option Addr) (n cap m : Nat) (x : Int) (w : World) (h : Num w a n m) (hn : 0 < n) (hm : m % 2 = 1) (hx : -1073741824 ≤ x ∧ x ≤ 1073741824) :
  Calls Try.prog 8 #[.agg #[.bool s,.slice a n cap,.int .i64 x]] w fun e w' => e = .returned (.int .i64 0) ∧ Below w.heap.size w w' := by
 have h' := h
 obtain ⟨xs,hl,hL,-⟩ := h'
 rcases hL.parts with rfl | ⟨hp,b,off,rfl,hlt,hcell⟩
 ·simp at hl; omega
 obtain ⟨x0,hb,hx0,hlt0,hmod⟩ := num_first h hn
 exact drcheck_ok s b off n cap _ x0 x w h hn hb hx0 hlt0 (by omega) hx
set_option maxHeartbeats 1000000 in
theorem rBits_long_L (E F B : Nat) (h0 : Fo E F) (HB : Hid (B = 2 ^ (E - 1) - 1)) (s : Bool) (a : Option Addr) (n cap m k : Nat) (x L t0 : Int)  (w : World) (h : Num w a n m) (hn : 0 < n) (hm : m % 2 = 1) (hx : -1073741824 ≤ x ∧ x ≤ 1073741824) (hk : Bl m k) (hk2 : k ≤ 524288) (hk1 : 0 < k) (hL : 1 - (B : Int) - (F : Int) = L) (ht0 : x + (k : Int) - 1 - (F : Int) = t0) (h4 : F + 1 < k) (hc : t0 < L) :
  Calls Try.prog 4 #[.agg #[.int .i64 E,.int .i64 F],.agg #[.bool s,.slice a n cap,.int .i64 x]] w fun e w' => e = .returned (.tuple #[.int .u64 0,.bool false,.int .i64 0]) ∧ Below w.heap.size w w' := by
 have H := hide h
 have HM := hide hm
 have HK := hide hk
 have hB : B ≤ 1023 := B_le h0 HB
 have hF := h0.f52
 have hF1 := h0.f1
 have hE := h0.e11
 have hE2 := h0.e2
 have hE2B : IntKind.i64.wrap (2 ^ E) = 2 * (B : Int) + 2 := by
  have h3 := (B_two h0 HB).1
  have e : ((2 : Int) ^ E) = ((2 ^ E : Nat) : Int) := by simp
  rw [e,h3,IntKind.wrap_i64]
  omega
 have H0 := hide h0
 clear h h0 hm hk
 go_enter Try.func4,Try.ntmps4
 go_wp2_with fail
 refine (rmay_zero _ _ (unhide H0) _).mono ?_
 rintro e w1 ⟨rfl,hb1⟩
 have hS := (Fs.two w _ _ _ _).kept hb1
 obtain ⟨⟨z1_0_0,z1_0_1,-⟩,⟨z1_1_0,z1_1_1,z1_1_2,-⟩,-⟩ := hS.cells
 go_wp2_with fail
 refine (drcheck_good s a n cap m x _ ((unhide H).kept hS.fr) hn (unhide HM) hx).mono ?_
 rintro e w2 ⟨rfl,hb2⟩
 replace hS := hS.kept hb2
 clear z1_0_0 z1_0_1 z1_1_0 z1_1_1 z1_1_2
 obtain ⟨⟨z2_0_0,z2_0_1,-⟩,⟨z2_1_0,z2_1_1,z2_1_2,-⟩,-⟩ := hS.cells
 go_wp2_with fail
 refine (rnone_no a n cap hn _).mono ?_
 rintro e w3 ⟨rfl,hb3⟩
 replace hS := hS.kept hb3
 clear z2_0_0 z2_0_1 z2_1_0 z2_1_1 z2_1_2
 obtain ⟨⟨z3_0_0,z3_0_1,-⟩,⟨z3_1_0,z3_1_1,z3_1_2,-⟩,-⟩ := hS.cells
 go_wp2_with fail
 refine (rbits_k a n cap m k _ ((unhide H).kept hS.fr) (unhide HK)).mono ?_
 rintro e w4 ⟨rfl,hb4⟩
 replace hS := hS.kept hb4
 clear z3_0_0 z3_0_1 z3_1_0 z3_1_1 z3_1_2
 obtain ⟨⟨z4_0_0,z4_0_1,-⟩,⟨z4_1_0,z4_1_1,z4_1_2,-⟩,-⟩ := hS.cells
 go_wp2_with fail
 refine wp_region_any (by kernel_rfl) ?_
 refine wpAny_det [some (32,.agg #[.int .i64 E,.int .i64 F]),some (33,.int .i64 B),some (34,.int .i64 (1 - (B : Int))),some (35,.pointer (some ⟨w.heap.size,1,none⟩)),some (36,.int .i64 F),some (37,.int .i64 L),some (10,.int .i64 L)]
  (fun _ W9 => Fs w W9 [⟨w.heap.size,#[.int .i64 E,.int .i64 F],23⟩,⟨w.heap.size + 1,#[.bool s,.slice a n cap,.int .i64 x],28⟩]) _ _ rfl (by kernel_rfl) rfl rfl ?_ ?_ (hS).drew
 ·intro l9 t9 W9 i9 hD hi9 hl9 hM
  obtain ⟨o9,ho9,hd9⟩ := (mem_ready.1 hi9).2
  have hin9 : i9 < 7 := by
   by_cases h : i9 < 7
   ·exact h
   ·rw [Array.getElem?_eq_none (by rw [hD.len]; simp; omega)] at hl9; cases hl9
  have hcase : i9 = 0 ∨ i9 = 1 ∨ i9 = 2 ∨ i9 = 3 ∨ i9 = 4 ∨ i9 = 5 ∨ i9 = 6 := by omega
  clear hin9
  rcases hcase with rfl | rfl | rfl | rfl | rfl | rfl | rfl
  ·cases ho9
   have r2 := hD.old 2 _ rfl rfl
   have hM0 := hM
   have c9_0 := hM0.cellAt (b := w.heap.size) (cs := #[.int .i64 E,.int .i64 F]) (t := 23) (by simp) 0 _ rfl
   have c9_1 := hM0.cellAt (b := w.heap.size) (cs := #[.int .i64 E,.int .i64 F]) (t := 23) (by simp) 1 _ rfl
   clear hM0
   clear hD hd9 hi9
   refine wpOp_step rfl (fun K hK => ?_)
   go_simp
   exact hK _ _ ⟨rfl,hM⟩
  ·cases ho9
   have r32 := hD.on 0 32 _ rfl (getD_true (hd9 ⟨0,.data⟩ (by simp) rfl))
   clear hD hd9 hi9
   refine wpOp_step rfl (fun K hK => ?_)
   go_simp
   go_wp2_with fail
   refine (rbias_any E F B (unhide H0) HB _).mono ?_
   rintro en w9 ⟨rfl,hb9⟩
   exact hK _ _ ⟨rfl,hM.kept hb9⟩
  ·cases ho9
   have r33 := hD.on 1 33 _ rfl (getD_true (hd9 ⟨1,.data⟩ (by simp) rfl))
   clear hD hd9 hi9
   refine wpOp_step rfl (fun K hK => ?_)
   go_simp
   exact hK _ _ ⟨act_eq (by (show Value.int _ _ = Value.int _ _; congr 1; (first | rfl | omega | (rw [IntKind.wrap_i64]; omega) | (rw [IntKind.wrap_u64]; omega)))),hM⟩
  ·cases ho9
   have r2 := hD.old 2 _ rfl rfl
   clear hD hd9 hi9
   refine wpOp_step rfl (fun K hK => ?_)
   go_simp
   exact hK _ _ ⟨rfl,hM⟩
  ·cases ho9
   have r35 := hD.on 3 35 _ rfl (getD_true (hd9 ⟨3,.data⟩ (by simp) rfl))
   have hM0 := hM
   have c9_0 := hM0.cellAt (b := w.heap.size) (cs := #[.int .i64 E,.int .i64 F]) (t := 23) (by simp) 1 _ rfl
   clear hM0
   clear hD hd9 hi9
   refine wpOp_step rfl (fun K hK => ?_)
   go_simp
   exact hK _ _ ⟨rfl,hM⟩
  ·cases ho9
   have r34 := hD.on 2 34 _ rfl (getD_true (hd9 ⟨2,.data⟩ (by simp) rfl))
   have r36 := hD.on 4 36 _ rfl (getD_true (hd9 ⟨4,.data⟩ (by simp) rfl))
   clear hD hd9 hi9
   refine wpOp_step rfl (fun K hK => ?_)
   go_simp
   exact hK _ _ ⟨act_eq (by (show Value.int _ _ = Value.int _ _; congr 1; (first | rfl | omega | (rw [IntKind.wrap_i64]; omega) | (rw [IntKind.wrap_u64]; omega)))),hM⟩
  ·cases ho9
   have r37 := hD.on 5 37 _ rfl (getD_true (hd9 ⟨5,.data⟩ (by simp) rfl))
   clear hD hd9 hi9
   refine wpOp_step rfl (fun K hK => ?_)
   go_simp
   exact hK _ _ ⟨rfl,hM⟩
 ·intro l9 W9 hl9 hM
  clear hl9
  clear hS z4_0_0 z4_0_1 z4_1_0 z4_1_1 z4_1_2
  have hS := hM
  clear hM
  simp only [Puts.lay,List.setIfInBounds_toArray,List.set_cons_zero,List.set_cons_succ]
  obtain ⟨⟨z5_0_0,z5_0_1,-⟩,⟨z5_1_0,z5_1_1,z5_1_2,-⟩,-⟩ := hS.cells
  go_wp2_with fail
  refine wp_region_any (by kernel_rfl) ?_
  refine wpAny_det [some (50,.int .i64 k),some (51,.pointer (some ⟨w.heap.size,1,none⟩)),some (52,.int .i64 F),some (53,.int .i64 ((F : Int) + 1)),some (54,.bool true),some (55,.bool true),some (56,undef),some (57,undef),some (58,undef),some (59,undef),some (60,.bool true),some (61,.bool true),some (62,undef),some (63,undef),some (64,undef),some (65,undef),some (66,undef),some (67,undef),some (68,undef),some (69,undef),some (70,undef),some (71,undef),some (72,undef),some (73,undef),some (74,undef),some (75,.bool true)]
   (fun _ W9 => Fs w W9 [⟨w.heap.size,#[.int .i64 E,.int .i64 F],23⟩,⟨w.heap.size + 1,#[.bool s,.slice a n cap,.int .i64 x],28⟩]) _ _ rfl (by kernel_rfl) rfl rfl ?_ ?_ (hS).drew
  ·intro l9 t9 W9 i9 hD hi9 hl9 hM
   obtain ⟨o9,ho9,hd9⟩ := (mem_ready.1 hi9).2
   have hin9 : i9 < 26 := by
    by_cases h : i9 < 26
    ·exact h
    ·rw [Array.getElem?_eq_none (by rw [hD.len]; simp; omega)] at hl9; cases hl9
   have hcase : i9 = 0 ∨ i9 = 1 ∨ i9 = 2 ∨ i9 = 3 ∨ i9 = 4 ∨ i9 = 5 ∨ i9 = 6 ∨ i9 = 7 ∨ i9 = 8 ∨ i9 = 9 ∨ i9 = 10 ∨ i9 = 11 ∨ i9 = 12 ∨ i9 = 13 ∨ i9 = 14 ∨ i9 = 15 ∨ i9 = 16 ∨ i9 = 17 ∨ i9 = 18 ∨ i9 = 19 ∨ i9 = 20 ∨ i9 = 21 ∨ i9 = 22 ∨ i9 = 23 ∨ i9 = 24 ∨ i9 = 25 := by omega
   clear hin9
   rcases hcase with rfl | rfl | rfl | rfl | rfl | rfl | rfl | rfl | rfl | rfl | rfl | rfl | rfl | rfl | rfl | rfl | rfl | rfl | rfl | rfl | rfl | rfl | rfl | rfl | rfl | rfl
   ·cases ho9
    have r8 := hD.old 8 _ rfl rfl
    clear hD hd9 hi9
    refine wpOp_step rfl (fun K hK => ?_)
    go_simp
    exact hK _ _ ⟨rfl,hM⟩
   ·cases ho9
    have r2 := hD.old 2 _ rfl rfl
    clear hD hd9 hi9
    refine wpOp_step rfl (fun K hK => ?_)
    go_simp
    exact hK _ _ ⟨rfl,hM⟩
   ·cases ho9
    have r51 := hD.on 1 51 _ rfl (getD_true (hd9 ⟨1,.data⟩ (by simp) rfl))
    have hM0 := hM
    have c9_0 := hM0.cellAt (b := w.heap.size) (cs := #[.int .i64 E,.int .i64 F]) (t := 23) (by simp) 1 _ rfl
    clear hM0
    clear hD hd9 hi9
    refine wpOp_step rfl (fun K hK => ?_)
    go_simp
    exact hK _ _ ⟨rfl,hM⟩
   ·cases ho9
    have r52 := hD.on 2 52 _ rfl (getD_true (hd9 ⟨2,.data⟩ (by simp) rfl))
    clear hD hd9 hi9
    refine wpOp_step rfl (fun K hK => ?_)
    go_simp
    exact hK _ _ ⟨act_eq (by (show Value.int _ _ = Value.int _ _; congr 1; (first | rfl | omega | (rw [IntKind.wrap_i64]; omega) | (rw [IntKind.wrap_u64]; omega)))),hM⟩
   ·cases ho9
    have r50 := hD.on 0 50 _ rfl (getD_true (hd9 ⟨0,.data⟩ (by simp) rfl))
    have r53 := hD.on 3 53 _ rfl (getD_true (hd9 ⟨3,.data⟩ (by simp) rfl))
    clear hD hd9 hi9
    refine wpOp_step rfl (fun K hK => ?_)
    go_simp
    exact hK _ _ ⟨act_eq (by (show Value.bool _ = Value.bool _; first | rfl | (congr 1; first | (exact decide_eq_true (by omega)) | (exact decide_eq_false (by omega)) | (simp; done) | (simp; omega)))),hM⟩
   ·cases ho9
    have r54 := hD.on 4 54 _ rfl (getD_true (hd9 ⟨4,.data⟩ (by simp) rfl))
    clear hD hd9 hi9
    refine wpOp_step rfl (fun K hK => ?_)
    go_simp
    exact hK _ _ ⟨rfl,hM⟩
   ·cases ho9
    have r55 := hD.on 5 55 _ rfl (getD_true (hd9 ⟨5,.guard⟩ (by simp) rfl))
    clear hD hd9 hi9
    refine wpOp_step rfl (fun K hK => ?_)
    go_simp
    exact hK _ _ ⟨rfl,hM⟩
   ·cases ho9
    have r55 := hD.on 5 55 _ rfl (getD_true (hd9 ⟨5,.guard⟩ (by simp) rfl))
    clear hD hd9 hi9
    refine wpOp_step rfl (fun K hK => ?_)
    go_simp
    exact hK _ _ ⟨rfl,hM⟩
   ·cases ho9
    have r55 := hD.on 5 55 _ rfl (getD_true (hd9 ⟨5,.guard⟩ (by simp) rfl))
    clear hD hd9 hi9
    refine wpOp_step rfl (fun K hK => ?_)
    go_simp
    exact hK _ _ ⟨rfl,hM⟩
   ·cases ho9
    have r55 := hD.on 5 55 _ rfl (getD_true (hd9 ⟨5,.guard⟩ (by simp) rfl))
    clear hD hd9 hi9
    refine wpOp_step rfl (fun K hK => ?_)
    go_simp
    exact hK _ _ ⟨rfl,hM⟩
   ·cases ho9
    have r55 := hD.on 5 55 _ rfl (getD_true (hd9 ⟨5,.data⟩ (by simp) rfl))
    have r59 := hD.on 9 59 _ rfl (getD_true (hd9 ⟨9,.data⟩ (by simp) rfl))
    clear hD hd9 hi9
    refine wpOp_step rfl (fun K hK => ?_)
    go_simp
    exact hK _ _ ⟨rfl,hM⟩
   ·cases ho9
    have r60 := hD.on 10 60 _ rfl (getD_true (hd9 ⟨10,.data⟩ (by simp) rfl))
    clear hD hd9 hi9
    refine wpOp_step rfl (fun K hK => ?_)
    go_simp
    exact hK _ _ ⟨rfl,hM⟩
   ·cases ho9
    have r61 := hD.on 11 61 _ rfl (getD_true (hd9 ⟨11,.guard⟩ (by simp) rfl))
    clear hD hd9 hi9
    refine wpOp_step rfl (fun K hK => ?_)
    go_simp
    exact hK _ _ ⟨rfl,hM⟩
   ·cases ho9
    have r61 := hD.on 11 61 _ rfl (getD_true (hd9 ⟨11,.guard⟩ (by simp) rfl))
    clear hD hd9 hi9
    refine wpOp_step rfl (fun K hK => ?_)
    go_simp
    exact hK _ _ ⟨rfl,hM⟩
   ·cases ho9
    have r61 := hD.on 11 61 _ rfl (getD_true (hd9 ⟨11,.guard⟩ (by simp) rfl))
    clear hD hd9 hi9
    refine wpOp_step rfl (fun K hK => ?_)
    go_simp
    exact hK _ _ ⟨rfl,hM⟩
   ·cases ho9
    have r61 := hD.on 11 61 _ rfl (getD_true (hd9 ⟨11,.guard⟩ (by simp) rfl))
    clear hD hd9 hi9
    refine wpOp_step rfl (fun K hK => ?_)
    go_simp
    exact hK _ _ ⟨rfl,hM⟩
   ·cases ho9
    have r61 := hD.on 11 61 _ rfl (getD_true (hd9 ⟨11,.guard⟩ (by simp) rfl))
    clear hD hd9 hi9
    refine wpOp_step rfl (fun K hK => ?_)
    go_simp
    exact hK _ _ ⟨rfl,hM⟩
   ·cases ho9
    have r61 := hD.on 11 61 _ rfl (getD_true (hd9 ⟨11,.guard⟩ (by simp) rfl))
    clear hD hd9 hi9
    refine wpOp_step rfl (fun K hK => ?_)
    go_simp
    exact hK _ _ ⟨rfl,hM⟩
   ·cases ho9
    have r61 := hD.on 11 61 _ rfl (getD_true (hd9 ⟨11,.guard⟩ (by simp) rfl))
    clear hD hd9 hi9
    refine wpOp_step rfl (fun K hK => ?_)
    go_simp
    exact hK _ _ ⟨rfl,hM⟩
   ·cases ho9
    have r61 := hD.on 11 61 _ rfl (getD_true (hd9 ⟨11,.chain⟩ (by simp) rfl))
    clear hD hd9 hi9
    refine wpOp_step rfl (fun K hK => ?_)
    go_simp
    exact hK _ _ ⟨rfl,hM⟩
   ·cases ho9
    have r61 := hD.on 11 61 _ rfl (getD_true (hd9 ⟨11,.guard⟩ (by simp) rfl))
    clear hD hd9 hi9
    refine wpOp_step rfl (fun K hK => ?_)
    go_simp
    exact hK _ _ ⟨rfl,hM⟩
   ·cases ho9
    have r61 := hD.on 11 61 _ rfl (getD_true (hd9 ⟨11,.guard⟩ (by simp) rfl))
    clear hD hd9 hi9
    refine wpOp_step rfl (fun K hK => ?_)
    go_simp
    exact hK _ _ ⟨rfl,hM⟩
   ·cases ho9
    have r61 := hD.on 11 61 _ rfl (getD_true (hd9 ⟨11,.guard⟩ (by simp) rfl))
    clear hD hd9 hi9
    refine wpOp_step rfl (fun K hK => ?_)
    go_simp
    exact hK _ _ ⟨rfl,hM⟩
   ·cases ho9
    have r61 := hD.on 11 61 _ rfl (getD_true (hd9 ⟨11,.guard⟩ (by simp) rfl))
    clear hD hd9 hi9
    refine wpOp_step rfl (fun K hK => ?_)
    go_simp
    exact hK _ _ ⟨rfl,hM⟩
   ·cases ho9
    have r61 := hD.on 11 61 _ rfl (getD_true (hd9 ⟨11,.guard⟩ (by simp) rfl))
    clear hD hd9 hi9
    refine wpOp_step rfl (fun K hK => ?_)
    go_simp
    exact hK _ _ ⟨rfl,hM⟩
   ·cases ho9
    have r61 := hD.on 11 61 _ rfl (getD_true (hd9 ⟨11,.data⟩ (by simp) rfl))
    have r74 := hD.on 24 74 _ rfl (getD_true (hd9 ⟨24,.data⟩ (by simp) rfl))
    clear hD hd9 hi9
    refine wpOp_step rfl (fun K hK => ?_)
    go_simp
    exact hK _ _ ⟨rfl,hM⟩
  ·intro l9 W9 hl9 hM
   clear hl9
   clear hS z5_0_0 z5_0_1 z5_1_0 z5_1_1 z5_1_2
   have hS := hM
   clear hM
   simp only [Puts.lay,List.setIfInBounds_toArray,List.set_cons_zero,List.set_cons_succ]
   obtain ⟨⟨z6_0_0,z6_0_1,-⟩,⟨z6_1_0,z6_1_1,z6_1_2,-⟩,-⟩ := hS.cells
   go_wp2
   exact bodyPost_ret (v := .tuple #[.int .u64 0,.bool false,.int .i64 0]) (by simp [results,Try.results4,go_sem]) rfl ⟨rfl,hS.fr⟩
set_option maxHeartbeats 1000000 in
theorem rBits_under_L (E F B : Nat) (h0 : Fo E F) (HB : Hid (B = 2 ^ (E - 1) - 1)) (s : Bool) (a : Option Addr) (n cap m k : Nat) (x L t0 : Int)  (w : World) (h : Num w a n m) (hn : 0 < n) (hm : m % 2 = 1) (hx : -1073741824 ≤ x ∧ x ≤ 1073741824) (hk : Bl m k) (hk2 : k ≤ 524288) (hk1 : 0 < k) (hL : 1 - (B : Int) - (F : Int) = L) (ht0 : x + (k : Int) - 1 - (F : Int) = t0) (h4 : k ≤ F + 1) (h9 : x < L) (hc : t0 < L) :
  Calls Try.prog 4 #[.agg #[.int .i64 E,.int .i64 F],.agg #[.bool s,.slice a n cap,.int .i64 x]] w fun e w' => e = .returned (.tuple #[.int .u64 0,.bool false,.int .i64 0]) ∧ Below w.heap.size w w' := by
 have H := hide h
 have HM := hide hm
 have HK := hide hk
 have hB : B ≤ 1023 := B_le h0 HB
 have hF := h0.f52
 have hF1 := h0.f1
 have hE := h0.e11
 have hE2 := h0.e2
 have hE2B : IntKind.i64.wrap (2 ^ E) = 2 * (B : Int) + 2 := by
  have h3 := (B_two h0 HB).1
  have e : ((2 : Int) ^ E) = ((2 ^ E : Nat) : Int) := by simp
  rw [e,h3,IntKind.wrap_i64]
  omega
 have H0 := hide h0
 clear h h0 hm hk
 go_enter Try.func4,Try.ntmps4
 go_wp2_with fail
 refine (rmay_zero _ _ (unhide H0) _).mono ?_
 rintro e w1 ⟨rfl,hb1⟩
 have hS := (Fs.two w _ _ _ _).kept hb1
 obtain ⟨⟨z1_0_0,z1_0_1,-⟩,⟨z1_1_0,z1_1_1,z1_1_2,-⟩,-⟩ := hS.cells
 go_wp2_with fail
 refine (drcheck_good s a n cap m x _ ((unhide H).kept hS.fr) hn (unhide HM) hx).mono ?_
 rintro e w2 ⟨rfl,hb2⟩
 replace hS := hS.kept hb2
 clear z1_0_0 z1_0_1 z1_1_0 z1_1_1 z1_1_2
 obtain ⟨⟨z2_0_0,z2_0_1,-⟩,⟨z2_1_0,z2_1_1,z2_1_2,-⟩,-⟩ := hS.cells
 go_wp2_with fail
 refine (rnone_no a n cap hn _).mono ?_
 rintro e w3 ⟨rfl,hb3⟩
 replace hS := hS.kept hb3
 clear z2_0_0 z2_0_1 z2_1_0 z2_1_1 z2_1_2
 obtain ⟨⟨z3_0_0,z3_0_1,-⟩,⟨z3_1_0,z3_1_1,z3_1_2,-⟩,-⟩ := hS.cells
 go_wp2_with fail
 refine (rbits_k a n cap m k _ ((unhide H).kept hS.fr) (unhide HK)).mono ?_
 rintro e w4 ⟨rfl,hb4⟩
 replace hS := hS.kept hb4
 clear z3_0_0 z3_0_1 z3_1_0 z3_1_1 z3_1_2
 obtain ⟨⟨z4_0_0,z4_0_1,-⟩,⟨z4_1_0,z4_1_1,z4_1_2,-⟩,-⟩ := hS.cells
 go_wp2_with fail
 refine wp_region_any (by kernel_rfl) ?_
 refine wpAny_det [some (32,.agg #[.int .i64 E,.int .i64 F]),some (33,.int .i64 B),some (34,.int .i64 (1 - (B : Int))),some (35,.pointer (some ⟨w.heap.size,1,none⟩)),some (36,.int .i64 F),some (37,.int .i64 L),some (10,.int .i64 L)]
  (fun _ W9 => Fs w W9 [⟨w.heap.size,#[.int .i64 E,.int .i64 F],23⟩,⟨w.heap.size + 1,#[.bool s,.slice a n cap,.int .i64 x],28⟩]) _ _ rfl (by kernel_rfl) rfl rfl ?_ ?_ (hS).drew
 ·intro l9 t9 W9 i9 hD hi9 hl9 hM
  obtain ⟨o9,ho9,hd9⟩ := (mem_ready.1 hi9).2
  have hin9 : i9 < 7 := by
   by_cases h : i9 < 7
   ·exact h
   ·rw [Array.getElem?_eq_none (by rw [hD.len]; simp; omega)] at hl9; cases hl9
  have hcase : i9 = 0 ∨ i9 = 1 ∨ i9 = 2 ∨ i9 = 3 ∨ i9 = 4 ∨ i9 = 5 ∨ i9 = 6 := by omega
  clear hin9
  rcases hcase with rfl | rfl | rfl | rfl | rfl | rfl | rfl
  ·cases ho9
   have r2 := hD.old 2 _ rfl rfl
   have hM0 := hM
   have c9_0 := hM0.cellAt (b := w.heap.size) (cs := #[.int .i64 E,.int .i64 F]) (t := 23) (by simp) 0 _ rfl
   have c9_1 := hM0.cellAt (b := w.heap.size) (cs := #[.int .i64 E,.int .i64 F]) (t := 23) (by simp) 1 _ rfl
   clear hM0
   clear hD hd9 hi9
   refine wpOp_step rfl (fun K hK => ?_)
   go_simp
   exact hK _ _ ⟨rfl,hM⟩
  ·cases ho9
   have r32 := hD.on 0 32 _ rfl (getD_true (hd9 ⟨0,.data⟩ (by simp) rfl))
   clear hD hd9 hi9
   refine wpOp_step rfl (fun K hK => ?_)
   go_simp
   go_wp2_with fail
   refine (rbias_any E F B (unhide H0) HB _).mono ?_
   rintro en w9 ⟨rfl,hb9⟩
   exact hK _ _ ⟨rfl,hM.kept hb9⟩
  ·cases ho9
   have r33 := hD.on 1 33 _ rfl (getD_true (hd9 ⟨1,.data⟩ (by simp) rfl))
   clear hD hd9 hi9
   refine wpOp_step rfl (fun K hK => ?_)
   go_simp
   exact hK _ _ ⟨act_eq (by (show Value.int _ _ = Value.int _ _; congr 1; (first | rfl | omega | (rw [IntKind.wrap_i64]; omega) | (rw [IntKind.wrap_u64]; omega)))),hM⟩
  ·cases ho9
   have r2 := hD.old 2 _ rfl rfl
   clear hD hd9 hi9
   refine wpOp_step rfl (fun K hK => ?_)
   go_simp
   exact hK _ _ ⟨rfl,hM⟩
  ·cases ho9
   have r35 := hD.on 3 35 _ rfl (getD_true (hd9 ⟨3,.data⟩ (by simp) rfl))
   have hM0 := hM
   have c9_0 := hM0.cellAt (b := w.heap.size) (cs := #[.int .i64 E,.int .i64 F]) (t := 23) (by simp) 1 _ rfl
   clear hM0
   clear hD hd9 hi9
   refine wpOp_step rfl (fun K hK => ?_)
   go_simp
   exact hK _ _ ⟨rfl,hM⟩
  ·cases ho9
   have r34 := hD.on 2 34 _ rfl (getD_true (hd9 ⟨2,.data⟩ (by simp) rfl))
   have r36 := hD.on 4 36 _ rfl (getD_true (hd9 ⟨4,.data⟩ (by simp) rfl))
   clear hD hd9 hi9
   refine wpOp_step rfl (fun K hK => ?_)
   go_simp
   exact hK _ _ ⟨act_eq (by (show Value.int _ _ = Value.int _ _; congr 1; (first | rfl | omega | (rw [IntKind.wrap_i64]; omega) | (rw [IntKind.wrap_u64]; omega)))),hM⟩
  ·cases ho9
   have r37 := hD.on 5 37 _ rfl (getD_true (hd9 ⟨5,.data⟩ (by simp) rfl))
   clear hD hd9 hi9
   refine wpOp_step rfl (fun K hK => ?_)
   go_simp
   exact hK _ _ ⟨rfl,hM⟩
 ·intro l9 W9 hl9 hM
  clear hl9
  clear hS z4_0_0 z4_0_1 z4_1_0 z4_1_1 z4_1_2
  have hS := hM
  clear hM
  simp only [Puts.lay,List.setIfInBounds_toArray,List.set_cons_zero,List.set_cons_succ]
  obtain ⟨⟨z5_0_0,z5_0_1,-⟩,⟨z5_1_0,z5_1_1,z5_1_2,-⟩,-⟩ := hS.cells
  go_wp2_with fail
  refine wp_region_any (by kernel_rfl) ?_
  refine wpAny_det [some (50,.int .i64 k),some (51,.pointer (some ⟨w.heap.size,1,none⟩)),some (52,.int .i64 F),some (53,.int .i64 ((F : Int) + 1)),some (54,.bool false),some (55,.bool false),some (56,.pointer (some ⟨w.heap.size + 1,2,none⟩)),some (57,.int .i64 x),some (58,.int .i64 L),some (59,.bool true),some (60,.bool true),some (61,.bool true),some (62,undef),some (63,undef),some (64,undef),some (65,undef),some (66,undef),some (67,undef),some (68,undef),some (69,undef),some (70,undef),some (71,undef),some (72,undef),some (73,undef),some (74,undef),some (75,.bool true)]
   (fun _ W9 => Fs w W9 [⟨w.heap.size,#[.int .i64 E,.int .i64 F],23⟩,⟨w.heap.size + 1,#[.bool s,.slice a n cap,.int .i64 x],28⟩]) _ _ rfl (by kernel_rfl) rfl rfl ?_ ?_ (hS).drew
  ·intro l9 t9 W9 i9 hD hi9 hl9 hM
   obtain ⟨o9,ho9,hd9⟩ := (mem_ready.1 hi9).2
   have hin9 : i9 < 26 := by
    by_cases h : i9 < 26
    ·exact h
    ·rw [Array.getElem?_eq_none (by rw [hD.len]; simp; omega)] at hl9; cases hl9
   have hcase : i9 = 0 ∨ i9 = 1 ∨ i9 = 2 ∨ i9 = 3 ∨ i9 = 4 ∨ i9 = 5 ∨ i9 = 6 ∨ i9 = 7 ∨ i9 = 8 ∨ i9 = 9 ∨ i9 = 10 ∨ i9 = 11 ∨ i9 = 12 ∨ i9 = 13 ∨ i9 = 14 ∨ i9 = 15 ∨ i9 = 16 ∨ i9 = 17 ∨ i9 = 18 ∨ i9 = 19 ∨ i9 = 20 ∨ i9 = 21 ∨ i9 = 22 ∨ i9 = 23 ∨ i9 = 24 ∨ i9 = 25 := by omega
   clear hin9
   rcases hcase with rfl | rfl | rfl | rfl | rfl | rfl | rfl | rfl | rfl | rfl | rfl | rfl | rfl | rfl | rfl | rfl | rfl | rfl | rfl | rfl | rfl | rfl | rfl | rfl | rfl | rfl
   ·cases ho9
    have r8 := hD.old 8 _ rfl rfl
    clear hD hd9 hi9
    refine wpOp_step rfl (fun K hK => ?_)
    go_simp
    exact hK _ _ ⟨rfl,hM⟩
   ·cases ho9
    have r2 := hD.old 2 _ rfl rfl
    clear hD hd9 hi9
    refine wpOp_step rfl (fun K hK => ?_)
    go_simp
    exact hK _ _ ⟨rfl,hM⟩
   ·cases ho9
    have r51 := hD.on 1 51 _ rfl (getD_true (hd9 ⟨1,.data⟩ (by simp) rfl))
    have hM0 := hM
    have c9_0 := hM0.cellAt (b := w.heap.size) (cs := #[.int .i64 E,.int .i64 F]) (t := 23) (by simp) 1 _ rfl
    clear hM0
    clear hD hd9 hi9
    refine wpOp_step rfl (fun K hK => ?_)
    go_simp
    exact hK _ _ ⟨rfl,hM⟩
   ·cases ho9
    have r52 := hD.on 2 52 _ rfl (getD_true (hd9 ⟨2,.data⟩ (by simp) rfl))
    clear hD hd9 hi9
    refine wpOp_step rfl (fun K hK => ?_)
    go_simp
    exact hK _ _ ⟨act_eq (by (show Value.int _ _ = Value.int _ _; congr 1; (first | rfl | omega | (rw [IntKind.wrap_i64]; omega) | (rw [IntKind.wrap_u64]; omega)))),hM⟩
   ·cases ho9
    have r50 := hD.on 0 50 _ rfl (getD_true (hd9 ⟨0,.data⟩ (by simp) rfl))
    have r53 := hD.on 3 53 _ rfl (getD_true (hd9 ⟨3,.data⟩ (by simp) rfl))
    clear hD hd9 hi9
    refine wpOp_step rfl (fun K hK => ?_)
    go_simp
    exact hK _ _ ⟨act_eq (by (show Value.bool _ = Value.bool _; first | rfl | (congr 1; first | (exact decide_eq_true (by omega)) | (exact decide_eq_false (by omega)) | (simp; done) | (simp; omega)))),hM⟩
   ·cases ho9
    have r54 := hD.on 4 54 _ rfl (getD_true (hd9 ⟨4,.data⟩ (by simp) rfl))
    clear hD hd9 hi9
    refine wpOp_step rfl (fun K hK => ?_)
    go_simp
    exact hK _ _ ⟨rfl,hM⟩
   ·cases ho9
    have r55 := hD.on 5 55 _ rfl (getD_true (hd9 ⟨5,.guard⟩ (by simp) rfl))
    have r3 := hD.old 3 _ rfl rfl
    clear hD hd9 hi9
    refine wpOp_step rfl (fun K hK => ?_)
    go_simp
    exact hK _ _ ⟨rfl,hM⟩
   ·cases ho9
    have r55 := hD.on 5 55 _ rfl (getD_true (hd9 ⟨5,.guard⟩ (by simp) rfl))
    have r56 := hD.on 6 56 _ rfl (getD_true (hd9 ⟨6,.data⟩ (by simp) rfl))
    have hM0 := hM
    have c9_0 := hM0.cellAt (b := w.heap.size + 1) (cs := #[.bool s,.slice a n cap,.int .i64 x]) (t := 28) (by simp) 2 _ rfl
    clear hM0
    clear hD hd9 hi9
    refine wpOp_step rfl (fun K hK => ?_)
    go_simp
    exact hK _ _ ⟨rfl,hM⟩
   ·cases ho9
    have r55 := hD.on 5 55 _ rfl (getD_true (hd9 ⟨5,.guard⟩ (by simp) rfl))
    have r11 := hD.old 11 _ rfl rfl
    clear hD hd9 hi9
    refine wpOp_step rfl (fun K hK => ?_)
    go_simp
    exact hK _ _ ⟨rfl,hM⟩
   ·cases ho9
    have r55 := hD.on 5 55 _ rfl (getD_true (hd9 ⟨5,.guard⟩ (by simp) rfl))
    have r57 := hD.on 7 57 _ rfl (getD_true (hd9 ⟨7,.data⟩ (by simp) rfl))
    have r58 := hD.on 8 58 _ rfl (getD_true (hd9 ⟨8,.data⟩ (by simp) rfl))
    clear hD hd9 hi9
    refine wpOp_step rfl (fun K hK => ?_)
    go_simp
    exact hK _ _ ⟨act_eq (by (show Value.bool _ = Value.bool _; first | rfl | (congr 1; first | (exact decide_eq_true (by omega)) | (exact decide_eq_false (by omega)) | (simp; done) | (simp; omega)))),hM⟩
   ·cases ho9
    have r55 := hD.on 5 55 _ rfl (getD_true (hd9 ⟨5,.data⟩ (by simp) rfl))
    have r59 := hD.on 9 59 _ rfl (getD_true (hd9 ⟨9,.data⟩ (by simp) rfl))
    clear hD hd9 hi9
    refine wpOp_step rfl (fun K hK => ?_)
    go_simp
    exact hK _ _ ⟨rfl,hM⟩
   ·cases ho9
    have r60 := hD.on 10 60 _ rfl (getD_true (hd9 ⟨10,.data⟩ (by simp) rfl))
    clear hD hd9 hi9
    refine wpOp_step rfl (fun K hK => ?_)
    go_simp
    exact hK _ _ ⟨rfl,hM⟩
   ·cases ho9
    have r61 := hD.on 11 61 _ rfl (getD_true (hd9 ⟨11,.guard⟩ (by simp) rfl))
    clear hD hd9 hi9
    refine wpOp_step rfl (fun K hK => ?_)
    go_simp
    exact hK _ _ ⟨rfl,hM⟩
   ·cases ho9
    have r61 := hD.on 11 61 _ rfl (getD_true (hd9 ⟨11,.guard⟩ (by simp) rfl))
    clear hD hd9 hi9
    refine wpOp_step rfl (fun K hK => ?_)
    go_simp
    exact hK _ _ ⟨rfl,hM⟩
   ·cases ho9
    have r61 := hD.on 11 61 _ rfl (getD_true (hd9 ⟨11,.guard⟩ (by simp) rfl))
    clear hD hd9 hi9
    refine wpOp_step rfl (fun K hK => ?_)
    go_simp
    exact hK _ _ ⟨rfl,hM⟩
   ·cases ho9
    have r61 := hD.on 11 61 _ rfl (getD_true (hd9 ⟨11,.guard⟩ (by simp) rfl))
    clear hD hd9 hi9
    refine wpOp_step rfl (fun K hK => ?_)
    go_simp
    exact hK _ _ ⟨rfl,hM⟩
   ·cases ho9
    have r61 := hD.on 11 61 _ rfl (getD_true (hd9 ⟨11,.guard⟩ (by simp) rfl))
    clear hD hd9 hi9
    refine wpOp_step rfl (fun K hK => ?_)
    go_simp
    exact hK _ _ ⟨rfl,hM⟩
   ·cases ho9
    have r61 := hD.on 11 61 _ rfl (getD_true (hd9 ⟨11,.guard⟩ (by simp) rfl))
    clear hD hd9 hi9
    refine wpOp_step rfl (fun K hK => ?_)
    go_simp
    exact hK _ _ ⟨rfl,hM⟩
   ·cases ho9
    have r61 := hD.on 11 61 _ rfl (getD_true (hd9 ⟨11,.guard⟩ (by simp) rfl))
    clear hD hd9 hi9
    refine wpOp_step rfl (fun K hK => ?_)
    go_simp
    exact hK _ _ ⟨rfl,hM⟩
   ·cases ho9
    have r61 := hD.on 11 61 _ rfl (getD_true (hd9 ⟨11,.chain⟩ (by simp) rfl))
    clear hD hd9 hi9
    refine wpOp_step rfl (fun K hK => ?_)
    go_simp
    exact hK _ _ ⟨rfl,hM⟩
   ·cases ho9
    have r61 := hD.on 11 61 _ rfl (getD_true (hd9 ⟨11,.guard⟩ (by simp) rfl))
    clear hD hd9 hi9
    refine wpOp_step rfl (fun K hK => ?_)
    go_simp
    exact hK _ _ ⟨rfl,hM⟩
   ·cases ho9
    have r61 := hD.on 11 61 _ rfl (getD_true (hd9 ⟨11,.guard⟩ (by simp) rfl))
    clear hD hd9 hi9
    refine wpOp_step rfl (fun K hK => ?_)
    go_simp
    exact hK _ _ ⟨rfl,hM⟩
   ·cases ho9
    have r61 := hD.on 11 61 _ rfl (getD_true (hd9 ⟨11,.guard⟩ (by simp) rfl))
    clear hD hd9 hi9
    refine wpOp_step rfl (fun K hK => ?_)
    go_simp
    exact hK _ _ ⟨rfl,hM⟩
   ·cases ho9
    have r61 := hD.on 11 61 _ rfl (getD_true (hd9 ⟨11,.guard⟩ (by simp) rfl))
    clear hD hd9 hi9
    refine wpOp_step rfl (fun K hK => ?_)
    go_simp
    exact hK _ _ ⟨rfl,hM⟩
   ·cases ho9
    have r61 := hD.on 11 61 _ rfl (getD_true (hd9 ⟨11,.guard⟩ (by simp) rfl))
    clear hD hd9 hi9
    refine wpOp_step rfl (fun K hK => ?_)
    go_simp
    exact hK _ _ ⟨rfl,hM⟩
   ·cases ho9
    have r61 := hD.on 11 61 _ rfl (getD_true (hd9 ⟨11,.data⟩ (by simp) rfl))
    have r74 := hD.on 24 74 _ rfl (getD_true (hd9 ⟨24,.data⟩ (by simp) rfl))
    clear hD hd9 hi9
    refine wpOp_step rfl (fun K hK => ?_)
    go_simp
    exact hK _ _ ⟨rfl,hM⟩
  ·intro l9 W9 hl9 hM
   clear hl9
   clear hS z5_0_0 z5_0_1 z5_1_0 z5_1_1 z5_1_2
   have hS := hM
   clear hM
   simp only [Puts.lay,List.setIfInBounds_toArray,List.set_cons_zero,List.set_cons_succ]
   obtain ⟨⟨z6_0_0,z6_0_1,-⟩,⟨z6_1_0,z6_1_1,z6_1_2,-⟩,-⟩ := hS.cells
   go_wp2
   exact bodyPost_ret (v := .tuple #[.int .u64 0,.bool false,.int .i64 0]) (by simp [results,Try.results4,go_sem]) rfl ⟨rfl,hS.fr⟩
set_option maxHeartbeats 1000000 in
theorem rBits_long_t0 (E F B : Nat) (h0 : Fo E F) (HB : Hid (B = 2 ^ (E - 1) - 1)) (s : Bool) (a : Option Addr) (n cap m k : Nat) (x L t0 : Int)  (w : World) (h : Num w a n m) (hn : 0 < n) (hm : m % 2 = 1) (hx : -1073741824 ≤ x ∧ x ≤ 1073741824) (hk : Bl m k) (hk2 : k ≤ 524288) (hk1 : 0 < k) (hL : 1 - (B : Int) - (F : Int) = L) (ht0 : x + (k : Int) - 1 - (F : Int) = t0) (h4 : F + 1 < k) (hc : L ≤ t0) :
  Calls Try.prog 4 #[.agg #[.int .i64 E,.int .i64 F],.agg #[.bool s,.slice a n cap,.int .i64 x]] w fun e w' => e = .returned (.tuple #[.int .u64 0,.bool false,.int .i64 0]) ∧ Below w.heap.size w w' := by
 have H := hide h
 have HM := hide hm
 have HK := hide hk
 have hB : B ≤ 1023 := B_le h0 HB
 have hF := h0.f52
 have hF1 := h0.f1
 have hE := h0.e11
 have hE2 := h0.e2
 have hE2B : IntKind.i64.wrap (2 ^ E) = 2 * (B : Int) + 2 := by
  have h3 := (B_two h0 HB).1
  have e : ((2 : Int) ^ E) = ((2 ^ E : Nat) : Int) := by simp
  rw [e,h3,IntKind.wrap_i64]
  omega
 have H0 := hide h0
 clear h h0 hm hk
 go_enter Try.func4,Try.ntmps4
 go_wp2_with fail
 refine (rmay_zero _ _ (unhide H0) _).mono ?_
 rintro e w1 ⟨rfl,hb1⟩
 have hS := (Fs.two w _ _ _ _).kept hb1
 obtain ⟨⟨z1_0_0,z1_0_1,-⟩,⟨z1_1_0,z1_1_1,z1_1_2,-⟩,-⟩ := hS.cells
 go_wp2_with fail
 refine (drcheck_good s a n cap m x _ ((unhide H).kept hS.fr) hn (unhide HM) hx).mono ?_
 rintro e w2 ⟨rfl,hb2⟩
 replace hS := hS.kept hb2
 clear z1_0_0 z1_0_1 z1_1_0 z1_1_1 z1_1_2
 obtain ⟨⟨z2_0_0,z2_0_1,-⟩,⟨z2_1_0,z2_1_1,z2_1_2,-⟩,-⟩ := hS.cells
 go_wp2_with fail
 refine (rnone_no a n cap hn _).mono ?_
 rintro e w3 ⟨rfl,hb3⟩
 replace hS := hS.kept hb3
 clear z2_0_0 z2_0_1 z2_1_0 z2_1_1 z2_1_2
 obtain ⟨⟨z3_0_0,z3_0_1,-⟩,⟨z3_1_0,z3_1_1,z3_1_2,-⟩,-⟩ := hS.cells
 go_wp2_with fail
 refine (rbits_k a n cap m k _ ((unhide H).kept hS.fr) (unhide HK)).mono ?_
 rintro e w4 ⟨rfl,hb4⟩
 replace hS := hS.kept hb4
 clear z3_0_0 z3_0_1 z3_1_0 z3_1_1 z3_1_2
 obtain ⟨⟨z4_0_0,z4_0_1,-⟩,⟨z4_1_0,z4_1_1,z4_1_2,-⟩,-⟩ := hS.cells
 go_wp2_with fail
 refine wp_region_any (by kernel_rfl) ?_
 refine wpAny_det [some (32,.agg #[.int .i64 E,.int .i64 F]),some (33,.int .i64 B),some (34,.int .i64 (1 - (B : Int))),some (35,.pointer (some ⟨w.heap.size,1,none⟩)),some (36,.int .i64 F),some (37,.int .i64 L),some (10,.int .i64 L)]
  (fun _ W9 => Fs w W9 [⟨w.heap.size,#[.int .i64 E,.int .i64 F],23⟩,⟨w.heap.size + 1,#[.bool s,.slice a n cap,.int .i64 x],28⟩]) _ _ rfl (by kernel_rfl) rfl rfl ?_ ?_ (hS).drew
 ·intro l9 t9 W9 i9 hD hi9 hl9 hM
  obtain ⟨o9,ho9,hd9⟩ := (mem_ready.1 hi9).2
  have hin9 : i9 < 7 := by
   by_cases h : i9 < 7
   ·exact h
   ·rw [Array.getElem?_eq_none (by rw [hD.len]; simp; omega)] at hl9; cases hl9
  have hcase : i9 = 0 ∨ i9 = 1 ∨ i9 = 2 ∨ i9 = 3 ∨ i9 = 4 ∨ i9 = 5 ∨ i9 = 6 := by omega
  clear hin9
  rcases hcase with rfl | rfl | rfl | rfl | rfl | rfl | rfl
  ·cases ho9
   have r2 := hD.old 2 _ rfl rfl
   have hM0 := hM
   have c9_0 := hM0.cellAt (b := w.heap.size) (cs := #[.int .i64 E,.int .i64 F]) (t := 23) (by simp) 0 _ rfl
   have c9_1 := hM0.cellAt (b := w.heap.size) (cs := #[.int .i64 E,.int .i64 F]) (t := 23) (by simp) 1 _ rfl
   clear hM0
   clear hD hd9 hi9
   refine wpOp_step rfl (fun K hK => ?_)
   go_simp
   exact hK _ _ ⟨rfl,hM⟩
  ·cases ho9
   have r32 := hD.on 0 32 _ rfl (getD_true (hd9 ⟨0,.data⟩ (by simp) rfl))
   clear hD hd9 hi9
   refine wpOp_step rfl (fun K hK => ?_)
   go_simp
   go_wp2_with fail
   refine (rbias_any E F B (unhide H0) HB _).mono ?_
   rintro en w9 ⟨rfl,hb9⟩
   exact hK _ _ ⟨rfl,hM.kept hb9⟩
  ·cases ho9
   have r33 := hD.on 1 33 _ rfl (getD_true (hd9 ⟨1,.data⟩ (by simp) rfl))
   clear hD hd9 hi9
   refine wpOp_step rfl (fun K hK => ?_)
   go_simp
   exact hK _ _ ⟨act_eq (by (show Value.int _ _ = Value.int _ _; congr 1; (first | rfl | omega | (rw [IntKind.wrap_i64]; omega) | (rw [IntKind.wrap_u64]; omega)))),hM⟩
  ·cases ho9
   have r2 := hD.old 2 _ rfl rfl
   clear hD hd9 hi9
   refine wpOp_step rfl (fun K hK => ?_)
   go_simp
   exact hK _ _ ⟨rfl,hM⟩
  ·cases ho9
   have r35 := hD.on 3 35 _ rfl (getD_true (hd9 ⟨3,.data⟩ (by simp) rfl))
   have hM0 := hM
   have c9_0 := hM0.cellAt (b := w.heap.size) (cs := #[.int .i64 E,.int .i64 F]) (t := 23) (by simp) 1 _ rfl
   clear hM0
   clear hD hd9 hi9
   refine wpOp_step rfl (fun K hK => ?_)
   go_simp
   exact hK _ _ ⟨rfl,hM⟩
  ·cases ho9
   have r34 := hD.on 2 34 _ rfl (getD_true (hd9 ⟨2,.data⟩ (by simp) rfl))
   have r36 := hD.on 4 36 _ rfl (getD_true (hd9 ⟨4,.data⟩ (by simp) rfl))
   clear hD hd9 hi9
   refine wpOp_step rfl (fun K hK => ?_)
   go_simp
   exact hK _ _ ⟨act_eq (by (show Value.int _ _ = Value.int _ _; congr 1; (first | rfl | omega | (rw [IntKind.wrap_i64]; omega) | (rw [IntKind.wrap_u64]; omega)))),hM⟩
  ·cases ho9
   have r37 := hD.on 5 37 _ rfl (getD_true (hd9 ⟨5,.data⟩ (by simp) rfl))
   clear hD hd9 hi9
   refine wpOp_step rfl (fun K hK => ?_)
   go_simp
   exact hK _ _ ⟨rfl,hM⟩
 ·intro l9 W9 hl9 hM
  clear hl9
  clear hS z4_0_0 z4_0_1 z4_1_0 z4_1_1 z4_1_2
  have hS := hM
  clear hM
  simp only [Puts.lay,List.setIfInBounds_toArray,List.set_cons_zero,List.set_cons_succ]
  obtain ⟨⟨z5_0_0,z5_0_1,-⟩,⟨z5_1_0,z5_1_1,z5_1_2,-⟩,-⟩ := hS.cells
  go_wp2_with fail
  refine wp_region_any (by kernel_rfl) ?_
  refine wpAny_det [some (50,.int .i64 k),some (51,.pointer (some ⟨w.heap.size,1,none⟩)),some (52,.int .i64 F),some (53,.int .i64 ((F : Int) + 1)),some (54,.bool true),some (55,.bool true),some (56,undef),some (57,undef),some (58,undef),some (59,undef),some (60,.bool true),some (61,.bool true),some (62,undef),some (63,undef),some (64,undef),some (65,undef),some (66,undef),some (67,undef),some (68,undef),some (69,undef),some (70,undef),some (71,undef),some (72,undef),some (73,undef),some (74,undef),some (75,.bool true)]
   (fun _ W9 => Fs w W9 [⟨w.heap.size,#[.int .i64 E,.int .i64 F],23⟩,⟨w.heap.size + 1,#[.bool s,.slice a n cap,.int .i64 x],28⟩]) _ _ rfl (by kernel_rfl) rfl rfl ?_ ?_ (hS).drew
  ·intro l9 t9 W9 i9 hD hi9 hl9 hM
   obtain ⟨o9,ho9,hd9⟩ := (mem_ready.1 hi9).2
   have hin9 : i9 < 26 := by
    by_cases h : i9 < 26
    ·exact h
    ·rw [Array.getElem?_eq_none (by rw [hD.len]; simp; omega)] at hl9; cases hl9
   have hcase : i9 = 0 ∨ i9 = 1 ∨ i9 = 2 ∨ i9 = 3 ∨ i9 = 4 ∨ i9 = 5 ∨ i9 = 6 ∨ i9 = 7 ∨ i9 = 8 ∨ i9 = 9 ∨ i9 = 10 ∨ i9 = 11 ∨ i9 = 12 ∨ i9 = 13 ∨ i9 = 14 ∨ i9 = 15 ∨ i9 = 16 ∨ i9 = 17 ∨ i9 = 18 ∨ i9 = 19 ∨ i9 = 20 ∨ i9 = 21 ∨ i9 = 22 ∨ i9 = 23 ∨ i9 = 24 ∨ i9 = 25 := by omega
   clear hin9
   rcases hcase with rfl | rfl | rfl | rfl | rfl | rfl | rfl | rfl | rfl | rfl | rfl | rfl | rfl | rfl | rfl | rfl | rfl | rfl | rfl | rfl | rfl | rfl | rfl | rfl | rfl | rfl
   ·cases ho9
    have r8 := hD.old 8 _ rfl rfl
    clear hD hd9 hi9
    refine wpOp_step rfl (fun K hK => ?_)
    go_simp
    exact hK _ _ ⟨rfl,hM⟩
   ·cases ho9
    have r2 := hD.old 2 _ rfl rfl
    clear hD hd9 hi9
    refine wpOp_step rfl (fun K hK => ?_)
    go_simp
    exact hK _ _ ⟨rfl,hM⟩
   ·cases ho9
    have r51 := hD.on 1 51 _ rfl (getD_true (hd9 ⟨1,.data⟩ (by simp) rfl))
    have hM0 := hM
    have c9_0 := hM0.cellAt (b := w.heap.size) (cs := #[.int .i64 E,.int .i64 F]) (t := 23) (by simp) 1 _ rfl
    clear hM0
    clear hD hd9 hi9
    refine wpOp_step rfl (fun K hK => ?_)
    go_simp
    exact hK _ _ ⟨rfl,hM⟩
   ·cases ho9
    have r52 := hD.on 2 52 _ rfl (getD_true (hd9 ⟨2,.data⟩ (by simp) rfl))
    clear hD hd9 hi9
    refine wpOp_step rfl (fun K hK => ?_)
    go_simp
    exact hK _ _ ⟨act_eq (by (show Value.int _ _ = Value.int _ _; congr 1; (first | rfl | omega | (rw [IntKind.wrap_i64]; omega) | (rw [IntKind.wrap_u64]; omega)))),hM⟩
   ·cases ho9
    have r50 := hD.on 0 50 _ rfl (getD_true (hd9 ⟨0,.data⟩ (by simp) rfl))
    have r53 := hD.on 3 53 _ rfl (getD_true (hd9 ⟨3,.data⟩ (by simp) rfl))
    clear hD hd9 hi9
    refine wpOp_step rfl (fun K hK => ?_)
    go_simp
    exact hK _ _ ⟨act_eq (by (show Value.bool _ = Value.bool _; first | rfl | (congr 1; first | (exact decide_eq_true (by omega)) | (exact decide_eq_false (by omega)) | (simp; done) | (simp; omega)))),hM⟩
   ·cases ho9
    have r54 := hD.on 4 54 _ rfl (getD_true (hd9 ⟨4,.data⟩ (by simp) rfl))
    clear hD hd9 hi9
    refine wpOp_step rfl (fun K hK => ?_)
    go_simp
    exact hK _ _ ⟨rfl,hM⟩
   ·cases ho9
    have r55 := hD.on 5 55 _ rfl (getD_true (hd9 ⟨5,.guard⟩ (by simp) rfl))
    clear hD hd9 hi9
    refine wpOp_step rfl (fun K hK => ?_)
    go_simp
    exact hK _ _ ⟨rfl,hM⟩
   ·cases ho9
    have r55 := hD.on 5 55 _ rfl (getD_true (hd9 ⟨5,.guard⟩ (by simp) rfl))
    clear hD hd9 hi9
    refine wpOp_step rfl (fun K hK => ?_)
    go_simp
    exact hK _ _ ⟨rfl,hM⟩
   ·cases ho9
    have r55 := hD.on 5 55 _ rfl (getD_true (hd9 ⟨5,.guard⟩ (by simp) rfl))
    clear hD hd9 hi9
    refine wpOp_step rfl (fun K hK => ?_)
    go_simp
    exact hK _ _ ⟨rfl,hM⟩
   ·cases ho9
    have r55 := hD.on 5 55 _ rfl (getD_true (hd9 ⟨5,.guard⟩ (by simp) rfl))
    clear hD hd9 hi9
    refine wpOp_step rfl (fun K hK => ?_)
    go_simp
    exact hK _ _ ⟨rfl,hM⟩
   ·cases ho9
    have r55 := hD.on 5 55 _ rfl (getD_true (hd9 ⟨5,.data⟩ (by simp) rfl))
    have r59 := hD.on 9 59 _ rfl (getD_true (hd9 ⟨9,.data⟩ (by simp) rfl))
    clear hD hd9 hi9
    refine wpOp_step rfl (fun K hK => ?_)
    go_simp
    exact hK _ _ ⟨rfl,hM⟩
   ·cases ho9
    have r60 := hD.on 10 60 _ rfl (getD_true (hd9 ⟨10,.data⟩ (by simp) rfl))
    clear hD hd9 hi9
    refine wpOp_step rfl (fun K hK => ?_)
    go_simp
    exact hK _ _ ⟨rfl,hM⟩
   ·cases ho9
    have r61 := hD.on 11 61 _ rfl (getD_true (hd9 ⟨11,.guard⟩ (by simp) rfl))
    clear hD hd9 hi9
    refine wpOp_step rfl (fun K hK => ?_)
    go_simp
    exact hK _ _ ⟨rfl,hM⟩
   ·cases ho9
    have r61 := hD.on 11 61 _ rfl (getD_true (hd9 ⟨11,.guard⟩ (by simp) rfl))
    clear hD hd9 hi9
    refine wpOp_step rfl (fun K hK => ?_)
    go_simp
    exact hK _ _ ⟨rfl,hM⟩
   ·cases ho9
    have r61 := hD.on 11 61 _ rfl (getD_true (hd9 ⟨11,.guard⟩ (by simp) rfl))
    clear hD hd9 hi9
    refine wpOp_step rfl (fun K hK => ?_)
    go_simp
    exact hK _ _ ⟨rfl,hM⟩
   ·cases ho9
    have r61 := hD.on 11 61 _ rfl (getD_true (hd9 ⟨11,.guard⟩ (by simp) rfl))
    clear hD hd9 hi9
    refine wpOp_step rfl (fun K hK => ?_)
    go_simp
    exact hK _ _ ⟨rfl,hM⟩
   ·cases ho9
    have r61 := hD.on 11 61 _ rfl (getD_true (hd9 ⟨11,.guard⟩ (by simp) rfl))
    clear hD hd9 hi9
    refine wpOp_step rfl (fun K hK => ?_)
    go_simp
    exact hK _ _ ⟨rfl,hM⟩
   ·cases ho9
    have r61 := hD.on 11 61 _ rfl (getD_true (hd9 ⟨11,.guard⟩ (by simp) rfl))
    clear hD hd9 hi9
    refine wpOp_step rfl (fun K hK => ?_)
    go_simp
    exact hK _ _ ⟨rfl,hM⟩
   ·cases ho9
    have r61 := hD.on 11 61 _ rfl (getD_true (hd9 ⟨11,.guard⟩ (by simp) rfl))
    clear hD hd9 hi9
    refine wpOp_step rfl (fun K hK => ?_)
    go_simp
    exact hK _ _ ⟨rfl,hM⟩
   ·cases ho9
    have r61 := hD.on 11 61 _ rfl (getD_true (hd9 ⟨11,.chain⟩ (by simp) rfl))
    clear hD hd9 hi9
    refine wpOp_step rfl (fun K hK => ?_)
    go_simp
    exact hK _ _ ⟨rfl,hM⟩
   ·cases ho9
    have r61 := hD.on 11 61 _ rfl (getD_true (hd9 ⟨11,.guard⟩ (by simp) rfl))
    clear hD hd9 hi9
    refine wpOp_step rfl (fun K hK => ?_)
    go_simp
    exact hK _ _ ⟨rfl,hM⟩
   ·cases ho9
    have r61 := hD.on 11 61 _ rfl (getD_true (hd9 ⟨11,.guard⟩ (by simp) rfl))
    clear hD hd9 hi9
    refine wpOp_step rfl (fun K hK => ?_)
    go_simp
    exact hK _ _ ⟨rfl,hM⟩
   ·cases ho9
    have r61 := hD.on 11 61 _ rfl (getD_true (hd9 ⟨11,.guard⟩ (by simp) rfl))
    clear hD hd9 hi9
    refine wpOp_step rfl (fun K hK => ?_)
    go_simp
    exact hK _ _ ⟨rfl,hM⟩
   ·cases ho9
    have r61 := hD.on 11 61 _ rfl (getD_true (hd9 ⟨11,.guard⟩ (by simp) rfl))
    clear hD hd9 hi9
    refine wpOp_step rfl (fun K hK => ?_)
    go_simp
    exact hK _ _ ⟨rfl,hM⟩
   ·cases ho9
    have r61 := hD.on 11 61 _ rfl (getD_true (hd9 ⟨11,.guard⟩ (by simp) rfl))
    clear hD hd9 hi9
    refine wpOp_step rfl (fun K hK => ?_)
    go_simp
    exact hK _ _ ⟨rfl,hM⟩
   ·cases ho9
    have r61 := hD.on 11 61 _ rfl (getD_true (hd9 ⟨11,.data⟩ (by simp) rfl))
    have r74 := hD.on 24 74 _ rfl (getD_true (hd9 ⟨24,.data⟩ (by simp) rfl))
    clear hD hd9 hi9
    refine wpOp_step rfl (fun K hK => ?_)
    go_simp
    exact hK _ _ ⟨rfl,hM⟩
  ·intro l9 W9 hl9 hM
   clear hl9
   clear hS z5_0_0 z5_0_1 z5_1_0 z5_1_1 z5_1_2
   have hS := hM
   clear hM
   simp only [Puts.lay,List.setIfInBounds_toArray,List.set_cons_zero,List.set_cons_succ]
   obtain ⟨⟨z6_0_0,z6_0_1,-⟩,⟨z6_1_0,z6_1_1,z6_1_2,-⟩,-⟩ := hS.cells
   go_wp2
   exact bodyPost_ret (v := .tuple #[.int .u64 0,.bool false,.int .i64 0]) (by simp [results,Try.results4,go_sem]) rfl ⟨rfl,hS.fr⟩
set_option maxHeartbeats 1000000 in
theorem rBits_over_t0 (E F B : Nat) (h0 : Fo E F) (HB : Hid (B = 2 ^ (E - 1) - 1)) (s : Bool) (a : Option Addr) (n cap m k : Nat) (x L t0 : Int)  (w : World) (h : Num w a n m) (hn : 0 < n) (hm : m % 2 = 1) (hx : -1073741824 ≤ x ∧ x ≤ 1073741824) (hk : Bl m k) (hk2 : k ≤ 524288) (hk1 : 0 < k) (hL : 1 - (B : Int) - (F : Int) = L) (ht0 : x + (k : Int) - 1 - (F : Int) = t0) (h4 : k ≤ F + 1) (h9 : t0 ≤ x) (h24 : (B : Int) - (F : Int) < t0) (hc : L ≤ t0) :
  Calls Try.prog 4 #[.agg #[.int .i64 E,.int .i64 F],.agg #[.bool s,.slice a n cap,.int .i64 x]] w fun e w' => e = .returned (.tuple #[.int .u64 0,.bool false,.int .i64 0]) ∧ Below w.heap.size w w' := by
 have H := hide h
 have HM := hide hm
 have HK := hide hk
 have hB : B ≤ 1023 := B_le h0 HB
 have hF := h0.f52
 have hF1 := h0.f1
 have hE := h0.e11
 have hE2 := h0.e2
 have hE2B : IntKind.i64.wrap (2 ^ E) = 2 * (B : Int) + 2 := by
  have h3 := (B_two h0 HB).1
  have e : ((2 : Int) ^ E) = ((2 ^ E : Nat) : Int) := by simp
  rw [e,h3,IntKind.wrap_i64]
  omega
 have H0 := hide h0
 clear h h0 hm hk
 go_enter Try.func4,Try.ntmps4
 go_wp2_with fail
 refine (rmay_zero _ _ (unhide H0) _).mono ?_
 rintro e w1 ⟨rfl,hb1⟩
 have hS := (Fs.two w _ _ _ _).kept hb1
 obtain ⟨⟨z1_0_0,z1_0_1,-⟩,⟨z1_1_0,z1_1_1,z1_1_2,-⟩,-⟩ := hS.cells
 go_wp2_with fail
 refine (drcheck_good s a n cap m x _ ((unhide H).kept hS.fr) hn (unhide HM) hx).mono ?_
 rintro e w2 ⟨rfl,hb2⟩
 replace hS := hS.kept hb2
 clear z1_0_0 z1_0_1 z1_1_0 z1_1_1 z1_1_2
 obtain ⟨⟨z2_0_0,z2_0_1,-⟩,⟨z2_1_0,z2_1_1,z2_1_2,-⟩,-⟩ := hS.cells
 go_wp2_with fail
 refine (rnone_no a n cap hn _).mono ?_
 rintro e w3 ⟨rfl,hb3⟩
 replace hS := hS.kept hb3
 clear z2_0_0 z2_0_1 z2_1_0 z2_1_1 z2_1_2
 obtain ⟨⟨z3_0_0,z3_0_1,-⟩,⟨z3_1_0,z3_1_1,z3_1_2,-⟩,-⟩ := hS.cells
 go_wp2_with fail
 refine (rbits_k a n cap m k _ ((unhide H).kept hS.fr) (unhide HK)).mono ?_
 rintro e w4 ⟨rfl,hb4⟩
 replace hS := hS.kept hb4
 clear z3_0_0 z3_0_1 z3_1_0 z3_1_1 z3_1_2
 obtain ⟨⟨z4_0_0,z4_0_1,-⟩,⟨z4_1_0,z4_1_1,z4_1_2,-⟩,-⟩ := hS.cells
 go_wp2_with fail
 refine wp_region_any (by kernel_rfl) ?_
 refine wpAny_det [some (32,.agg #[.int .i64 E,.int .i64 F]),some (33,.int .i64 B),some (34,.int .i64 (1 - (B : Int))),some (35,.pointer (some ⟨w.heap.size,1,none⟩)),some (36,.int .i64 F),some (37,.int .i64 L),some (10,.int .i64 L)]
  (fun _ W9 => Fs w W9 [⟨w.heap.size,#[.int .i64 E,.int .i64 F],23⟩,⟨w.heap.size + 1,#[.bool s,.slice a n cap,.int .i64 x],28⟩]) _ _ rfl (by kernel_rfl) rfl rfl ?_ ?_ (hS).drew
 ·intro l9 t9 W9 i9 hD hi9 hl9 hM
  obtain ⟨o9,ho9,hd9⟩ := (mem_ready.1 hi9).2
  have hin9 : i9 < 7 := by
   by_cases h : i9 < 7
   ·exact h
   ·rw [Array.getElem?_eq_none (by rw [hD.len]; simp; omega)] at hl9; cases hl9
  have hcase : i9 = 0 ∨ i9 = 1 ∨ i9 = 2 ∨ i9 = 3 ∨ i9 = 4 ∨ i9 = 5 ∨ i9 = 6 := by omega
  clear hin9
  rcases hcase with rfl | rfl | rfl | rfl | rfl | rfl | rfl
  ·cases ho9
   have r2 := hD.old 2 _ rfl rfl
   have hM0 := hM
   have c9_0 := hM0.cellAt (b := w.heap.size) (cs := #[.int .i64 E,.int .i64 F]) (t := 23) (by simp) 0 _ rfl
   have c9_1 := hM0.cellAt (b := w.heap.size) (cs := #[.int .i64 E,.int .i64 F]) (t := 23) (by simp) 1 _ rfl
   clear hM0
   clear hD hd9 hi9
   refine wpOp_step rfl (fun K hK => ?_)
   go_simp
   exact hK _ _ ⟨rfl,hM⟩
  ·cases ho9
   have r32 := hD.on 0 32 _ rfl (getD_true (hd9 ⟨0,.data⟩ (by simp) rfl))
   clear hD hd9 hi9
   refine wpOp_step rfl (fun K hK => ?_)
   go_simp
   go_wp2_with fail
   refine (rbias_any E F B (unhide H0) HB _).mono ?_
   rintro en w9 ⟨rfl,hb9⟩
   exact hK _ _ ⟨rfl,hM.kept hb9⟩
  ·cases ho9
   have r33 := hD.on 1 33 _ rfl (getD_true (hd9 ⟨1,.data⟩ (by simp) rfl))
   clear hD hd9 hi9
   refine wpOp_step rfl (fun K hK => ?_)
   go_simp
   exact hK _ _ ⟨act_eq (by (show Value.int _ _ = Value.int _ _; congr 1; (first | rfl | omega | (rw [IntKind.wrap_i64]; omega) | (rw [IntKind.wrap_u64]; omega)))),hM⟩
  ·cases ho9
   have r2 := hD.old 2 _ rfl rfl
   clear hD hd9 hi9
   refine wpOp_step rfl (fun K hK => ?_)
   go_simp
   exact hK _ _ ⟨rfl,hM⟩
  ·cases ho9
   have r35 := hD.on 3 35 _ rfl (getD_true (hd9 ⟨3,.data⟩ (by simp) rfl))
   have hM0 := hM
   have c9_0 := hM0.cellAt (b := w.heap.size) (cs := #[.int .i64 E,.int .i64 F]) (t := 23) (by simp) 1 _ rfl
   clear hM0
   clear hD hd9 hi9
   refine wpOp_step rfl (fun K hK => ?_)
   go_simp
   exact hK _ _ ⟨rfl,hM⟩
  ·cases ho9
   have r34 := hD.on 2 34 _ rfl (getD_true (hd9 ⟨2,.data⟩ (by simp) rfl))
   have r36 := hD.on 4 36 _ rfl (getD_true (hd9 ⟨4,.data⟩ (by simp) rfl))
   clear hD hd9 hi9
   refine wpOp_step rfl (fun K hK => ?_)
   go_simp
   exact hK _ _ ⟨act_eq (by (show Value.int _ _ = Value.int _ _; congr 1; (first | rfl | omega | (rw [IntKind.wrap_i64]; omega) | (rw [IntKind.wrap_u64]; omega)))),hM⟩
  ·cases ho9
   have r37 := hD.on 5 37 _ rfl (getD_true (hd9 ⟨5,.data⟩ (by simp) rfl))
   clear hD hd9 hi9
   refine wpOp_step rfl (fun K hK => ?_)
   go_simp
   exact hK _ _ ⟨rfl,hM⟩
 ·intro l9 W9 hl9 hM
  clear hl9
  clear hS z4_0_0 z4_0_1 z4_1_0 z4_1_1 z4_1_2
  have hS := hM
  clear hM
  simp only [Puts.lay,List.setIfInBounds_toArray,List.set_cons_zero,List.set_cons_succ]
  obtain ⟨⟨z5_0_0,z5_0_1,-⟩,⟨z5_1_0,z5_1_1,z5_1_2,-⟩,-⟩ := hS.cells
  go_wp2_with fail
  refine wp_region_any (by kernel_rfl) ?_
  refine wpAny_det [some (50,.int .i64 k),some (51,.pointer (some ⟨w.heap.size,1,none⟩)),some (52,.int .i64 F),some (53,.int .i64 ((F : Int) + 1)),some (54,.bool false),some (55,.bool false),some (56,.pointer (some ⟨w.heap.size + 1,2,none⟩)),some (57,.int .i64 x),some (58,.int .i64 t0),some (59,.bool false),some (60,.bool false),some (61,.bool false),some (62,.int .i64 t0),some (63,.pointer (some ⟨w.heap.size,0,none⟩)),some (64,.int .i64 E),some (65,.int .u64 E),some (66,.int .i64 (2 * (B : Int) + 2)),some (67,.int .i64 (2 * (B : Int))),some (68,.agg #[.int .i64 E,.int .i64 F]),some (69,.int .i64 B),some (70,.int .i64 B),some (71,.pointer (some ⟨w.heap.size,1,none⟩)),some (72,.int .i64 F),some (73,.int .i64 ((B : Int) - (F : Int))),some (74,.bool true),some (75,.bool true)]
   (fun _ W9 => Fs w W9 [⟨w.heap.size,#[.int .i64 E,.int .i64 F],23⟩,⟨w.heap.size + 1,#[.bool s,.slice a n cap,.int .i64 x],28⟩]) _ _ rfl (by kernel_rfl) rfl rfl ?_ ?_ (hS).drew
  ·intro l9 t9 W9 i9 hD hi9 hl9 hM
   obtain ⟨o9,ho9,hd9⟩ := (mem_ready.1 hi9).2
   have hin9 : i9 < 26 := by
    by_cases h : i9 < 26
    ·exact h
    ·rw [Array.getElem?_eq_none (by rw [hD.len]; simp; omega)] at hl9; cases hl9
   have hcase : i9 = 0 ∨ i9 = 1 ∨ i9 = 2 ∨ i9 = 3 ∨ i9 = 4 ∨ i9 = 5 ∨ i9 = 6 ∨ i9 = 7 ∨ i9 = 8 ∨ i9 = 9 ∨ i9 = 10 ∨ i9 = 11 ∨ i9 = 12 ∨ i9 = 13 ∨ i9 = 14 ∨ i9 = 15 ∨ i9 = 16 ∨ i9 = 17 ∨ i9 = 18 ∨ i9 = 19 ∨ i9 = 20 ∨ i9 = 21 ∨ i9 = 22 ∨ i9 = 23 ∨ i9 = 24 ∨ i9 = 25 := by omega
   clear hin9
   rcases hcase with rfl | rfl | rfl | rfl | rfl | rfl | rfl | rfl | rfl | rfl | rfl | rfl | rfl | rfl | rfl | rfl | rfl | rfl | rfl | rfl | rfl | rfl | rfl | rfl | rfl | rfl
   ·cases ho9
    have r8 := hD.old 8 _ rfl rfl
    clear hD hd9 hi9
    refine wpOp_step rfl (fun K hK => ?_)
    go_simp
    exact hK _ _ ⟨rfl,hM⟩
   ·cases ho9
    have r2 := hD.old 2 _ rfl rfl
    clear hD hd9 hi9
    refine wpOp_step rfl (fun K hK => ?_)
    go_simp
    exact hK _ _ ⟨rfl,hM⟩
   ·cases ho9
    have r51 := hD.on 1 51 _ rfl (getD_true (hd9 ⟨1,.data⟩ (by simp) rfl))
    have hM0 := hM
    have c9_0 := hM0.cellAt (b := w.heap.size) (cs := #[.int .i64 E,.int .i64 F]) (t := 23) (by simp) 1 _ rfl
    clear hM0
    clear hD hd9 hi9
    refine wpOp_step rfl (fun K hK => ?_)
    go_simp
    exact hK _ _ ⟨rfl,hM⟩
   ·cases ho9
    have r52 := hD.on 2 52 _ rfl (getD_true (hd9 ⟨2,.data⟩ (by simp) rfl))
    clear hD hd9 hi9
    refine wpOp_step rfl (fun K hK => ?_)
    go_simp
    exact hK _ _ ⟨act_eq (by (show Value.int _ _ = Value.int _ _; congr 1; (first | rfl | omega | (rw [IntKind.wrap_i64]; omega) | (rw [IntKind.wrap_u64]; omega)))),hM⟩
   ·cases ho9
    have r50 := hD.on 0 50 _ rfl (getD_true (hd9 ⟨0,.data⟩ (by simp) rfl))
    have r53 := hD.on 3 53 _ rfl (getD_true (hd9 ⟨3,.data⟩ (by simp) rfl))
    clear hD hd9 hi9
    refine wpOp_step rfl (fun K hK => ?_)
    go_simp
    exact hK _ _ ⟨act_eq (by (show Value.bool _ = Value.bool _; first | rfl | (congr 1; first | (exact decide_eq_true (by omega)) | (exact decide_eq_false (by omega)) | (simp; done) | (simp; omega)))),hM⟩
   ·cases ho9
    have r54 := hD.on 4 54 _ rfl (getD_true (hd9 ⟨4,.data⟩ (by simp) rfl))
    clear hD hd9 hi9
    refine wpOp_step rfl (fun K hK => ?_)
    go_simp
    exact hK _ _ ⟨rfl,hM⟩
   ·cases ho9
    have r55 := hD.on 5 55 _ rfl (getD_true (hd9 ⟨5,.guard⟩ (by simp) rfl))
    have r3 := hD.old 3 _ rfl rfl
    clear hD hd9 hi9
    refine wpOp_step rfl (fun K hK => ?_)
    go_simp
    exact hK _ _ ⟨rfl,hM⟩
   ·cases ho9
    have r55 := hD.on 5 55 _ rfl (getD_true (hd9 ⟨5,.guard⟩ (by simp) rfl))
    have r56 := hD.on 6 56 _ rfl (getD_true (hd9 ⟨6,.data⟩ (by simp) rfl))
    have hM0 := hM
    have c9_0 := hM0.cellAt (b := w.heap.size + 1) (cs := #[.bool s,.slice a n cap,.int .i64 x]) (t := 28) (by simp) 2 _ rfl
    clear hM0
    clear hD hd9 hi9
    refine wpOp_step rfl (fun K hK => ?_)
    go_simp
    exact hK _ _ ⟨rfl,hM⟩
   ·cases ho9
    have r55 := hD.on 5 55 _ rfl (getD_true (hd9 ⟨5,.guard⟩ (by simp) rfl))
    have r11 := hD.old 11 _ rfl rfl
    clear hD hd9 hi9
    refine wpOp_step rfl (fun K hK => ?_)
    go_simp
    exact hK _ _ ⟨rfl,hM⟩
   ·cases ho9
    have r55 := hD.on 5 55 _ rfl (getD_true (hd9 ⟨5,.guard⟩ (by simp) rfl))
    have r57 := hD.on 7 57 _ rfl (getD_true (hd9 ⟨7,.data⟩ (by simp) rfl))
    have r58 := hD.on 8 58 _ rfl (getD_true (hd9 ⟨8,.data⟩ (by simp) rfl))
    clear hD hd9 hi9
    refine wpOp_step rfl (fun K hK => ?_)
    go_simp
    exact hK _ _ ⟨act_eq (by (show Value.bool _ = Value.bool _; first | rfl | (congr 1; first | (exact decide_eq_true (by omega)) | (exact decide_eq_false (by omega)) | (simp; done) | (simp; omega)))),hM⟩
   ·cases ho9
    have r55 := hD.on 5 55 _ rfl (getD_true (hd9 ⟨5,.data⟩ (by simp) rfl))
    have r59 := hD.on 9 59 _ rfl (getD_true (hd9 ⟨9,.data⟩ (by simp) rfl))
    clear hD hd9 hi9
    refine wpOp_step rfl (fun K hK => ?_)
    go_simp
    exact hK _ _ ⟨rfl,hM⟩
   ·cases ho9
    have r60 := hD.on 10 60 _ rfl (getD_true (hd9 ⟨10,.data⟩ (by simp) rfl))
    clear hD hd9 hi9
    refine wpOp_step rfl (fun K hK => ?_)
    go_simp
    exact hK _ _ ⟨rfl,hM⟩
   ·cases ho9
    have r61 := hD.on 11 61 _ rfl (getD_true (hd9 ⟨11,.guard⟩ (by simp) rfl))
    have r11 := hD.old 11 _ rfl rfl
    clear hD hd9 hi9
    refine wpOp_step rfl (fun K hK => ?_)
    go_simp
    exact hK _ _ ⟨rfl,hM⟩
   ·cases ho9
    have r61 := hD.on 11 61 _ rfl (getD_true (hd9 ⟨11,.guard⟩ (by simp) rfl))
    have r2 := hD.old 2 _ rfl rfl
    clear hD hd9 hi9
    refine wpOp_step rfl (fun K hK => ?_)
    go_simp
    exact hK _ _ ⟨rfl,hM⟩
   ·cases ho9
    have r61 := hD.on 11 61 _ rfl (getD_true (hd9 ⟨11,.guard⟩ (by simp) rfl))
    have r63 := hD.on 13 63 _ rfl (getD_true (hd9 ⟨13,.data⟩ (by simp) rfl))
    have hM0 := hM
    have c9_0 := hM0.cellAt (b := w.heap.size) (cs := #[.int .i64 E,.int .i64 F]) (t := 23) (by simp) 0 _ rfl
    clear hM0
    clear hD hd9 hi9
    refine wpOp_step rfl (fun K hK => ?_)
    go_simp
    exact hK _ _ ⟨rfl,hM⟩
   ·cases ho9
    have r61 := hD.on 11 61 _ rfl (getD_true (hd9 ⟨11,.guard⟩ (by simp) rfl))
    have r64 := hD.on 14 64 _ rfl (getD_true (hd9 ⟨14,.data⟩ (by simp) rfl))
    clear hD hd9 hi9
    refine wpOp_step rfl (fun K hK => ?_)
    go_simp
    exact hK _ _ ⟨act_eq (by (show Value.int _ _ = Value.int _ _; congr 1; (first | rfl | omega | (rw [IntKind.wrap_i64]; omega) | (rw [IntKind.wrap_u64]; omega)))),hM⟩
   ·cases ho9
    have r61 := hD.on 11 61 _ rfl (getD_true (hd9 ⟨11,.guard⟩ (by simp) rfl))
    have r65 := hD.on 15 65 _ rfl (getD_true (hd9 ⟨15,.data⟩ (by simp) rfl))
    clear hD hd9 hi9
    refine wpOp_step rfl (fun K hK => ?_)
    go_simp
    exact hK _ _ ⟨act_eq (by (show Value.int _ _ = Value.int _ _; first | rfl | (congr 1; first | exact hE2B | simpa using hE2B))),hM⟩
   ·cases ho9
    have r61 := hD.on 11 61 _ rfl (getD_true (hd9 ⟨11,.guard⟩ (by simp) rfl))
    have r66 := hD.on 16 66 _ rfl (getD_true (hd9 ⟨16,.data⟩ (by simp) rfl))
    clear hD hd9 hi9
    refine wpOp_step rfl (fun K hK => ?_)
    go_simp
    exact hK _ _ ⟨act_eq (by (show Value.int _ _ = Value.int _ _; congr 1; (first | rfl | omega | (rw [IntKind.wrap_i64]; omega) | (rw [IntKind.wrap_u64]; omega)))),hM⟩
   ·cases ho9
    have r61 := hD.on 11 61 _ rfl (getD_true (hd9 ⟨11,.guard⟩ (by simp) rfl))
    have r2 := hD.old 2 _ rfl rfl
    have hM0 := hM
    have c9_0 := hM0.cellAt (b := w.heap.size) (cs := #[.int .i64 E,.int .i64 F]) (t := 23) (by simp) 0 _ rfl
    have c9_1 := hM0.cellAt (b := w.heap.size) (cs := #[.int .i64 E,.int .i64 F]) (t := 23) (by simp) 1 _ rfl
    clear hM0
    clear hD hd9 hi9
    refine wpOp_step rfl (fun K hK => ?_)
    go_simp
    exact hK _ _ ⟨rfl,hM⟩
   ·cases ho9
    have r61 := hD.on 11 61 _ rfl (getD_true (hd9 ⟨11,.chain⟩ (by simp) rfl))
    have r68 := hD.on 18 68 _ rfl (getD_true (hd9 ⟨18,.data⟩ (by simp) rfl))
    clear hD hd9 hi9
    refine wpOp_step rfl (fun K hK => ?_)
    go_simp
    go_wp2_with fail
    refine (rbias_any E F B (unhide H0) HB _).mono ?_
    rintro en w9 ⟨rfl,hb9⟩
    exact hK _ _ ⟨rfl,hM.kept hb9⟩
   ·cases ho9
    have r61 := hD.on 11 61 _ rfl (getD_true (hd9 ⟨11,.guard⟩ (by simp) rfl))
    have r67 := hD.on 17 67 _ rfl (getD_true (hd9 ⟨17,.data⟩ (by simp) rfl))
    have r69 := hD.on 19 69 _ rfl (getD_true (hd9 ⟨19,.data⟩ (by simp) rfl))
    clear hD hd9 hi9
    refine wpOp_step rfl (fun K hK => ?_)
    go_simp
    exact hK _ _ ⟨act_eq (by (show Value.int _ _ = Value.int _ _; congr 1; (first | rfl | omega | (rw [IntKind.wrap_i64]; omega) | (rw [IntKind.wrap_u64]; omega)))),hM⟩
   ·cases ho9
    have r61 := hD.on 11 61 _ rfl (getD_true (hd9 ⟨11,.guard⟩ (by simp) rfl))
    have r2 := hD.old 2 _ rfl rfl
    clear hD hd9 hi9
    refine wpOp_step rfl (fun K hK => ?_)
    go_simp
    exact hK _ _ ⟨rfl,hM⟩
   ·cases ho9
    have r61 := hD.on 11 61 _ rfl (getD_true (hd9 ⟨11,.guard⟩ (by simp) rfl))
    have r71 := hD.on 21 71 _ rfl (getD_true (hd9 ⟨21,.data⟩ (by simp) rfl))
    have hM0 := hM
    have c9_0 := hM0.cellAt (b := w.heap.size) (cs := #[.int .i64 E,.int .i64 F]) (t := 23) (by simp) 1 _ rfl
    clear hM0
    clear hD hd9 hi9
    refine wpOp_step rfl (fun K hK => ?_)
    go_simp
    exact hK _ _ ⟨rfl,hM⟩
   ·cases ho9
    have r61 := hD.on 11 61 _ rfl (getD_true (hd9 ⟨11,.guard⟩ (by simp) rfl))
    have r70 := hD.on 20 70 _ rfl (getD_true (hd9 ⟨20,.data⟩ (by simp) rfl))
    have r72 := hD.on 22 72 _ rfl (getD_true (hd9 ⟨22,.data⟩ (by simp) rfl))
    clear hD hd9 hi9
    refine wpOp_step rfl (fun K hK => ?_)
    go_simp
    exact hK _ _ ⟨act_eq (by (show Value.int _ _ = Value.int _ _; congr 1; (first | rfl | omega | (rw [IntKind.wrap_i64]; omega) | (rw [IntKind.wrap_u64]; omega)))),hM⟩
   ·cases ho9
    have r61 := hD.on 11 61 _ rfl (getD_true (hd9 ⟨11,.guard⟩ (by simp) rfl))
    have r62 := hD.on 12 62 _ rfl (getD_true (hd9 ⟨12,.data⟩ (by simp) rfl))
    have r73 := hD.on 23 73 _ rfl (getD_true (hd9 ⟨23,.data⟩ (by simp) rfl))
    clear hD hd9 hi9
    refine wpOp_step rfl (fun K hK => ?_)
    go_simp
    exact hK _ _ ⟨act_eq (by (show Value.bool _ = Value.bool _; first | rfl | (congr 1; first | (exact decide_eq_true (by omega)) | (exact decide_eq_false (by omega)) | (simp; done) | (simp; omega)))),hM⟩
   ·cases ho9
    have r61 := hD.on 11 61 _ rfl (getD_true (hd9 ⟨11,.data⟩ (by simp) rfl))
    have r74 := hD.on 24 74 _ rfl (getD_true (hd9 ⟨24,.data⟩ (by simp) rfl))
    clear hD hd9 hi9
    refine wpOp_step rfl (fun K hK => ?_)
    go_simp
    exact hK _ _ ⟨rfl,hM⟩
  ·intro l9 W9 hl9 hM
   clear hl9
   clear hS z5_0_0 z5_0_1 z5_1_0 z5_1_1 z5_1_2
   have hS := hM
   clear hM
   simp only [Puts.lay,List.setIfInBounds_toArray,List.set_cons_zero,List.set_cons_succ]
   obtain ⟨⟨z6_0_0,z6_0_1,-⟩,⟨z6_1_0,z6_1_1,z6_1_2,-⟩,-⟩ := hS.cells
   go_wp2
   exact bodyPost_ret (v := .tuple #[.int .u64 0,.bool false,.int .i64 0]) (by simp [results,Try.results4,go_sem]) rfl ⟨rfl,hS.fr⟩
end Go.Proofs.Ytjemjhaphannaaa
namespace Go.Proofs.Ytjemjhaphannaaa
open Go.RowKit
set_option maxHeartbeats 400000 in
theorem still_true (g c n cap base : Nat) (a : Option Addr) (xs : List Nat) (x : Int) (w : World) (h : Lt w base g n c xs) (hb : n ≤ 35184372087808) (hw : Pl.Wf xs) (hl : Lim w a xs) :
  Calls Try.prog 9 #[.agg #[.bool true,.slice (some ⟨g,0,none⟩) n c,.int .i64 x],.agg #[.bool true,.slice a n cap,.int .i64 x]] w fun e w' => e = .returned (.bool true) ∧ Below w.heap.size w w' := by
 have H := hide h
 have HW := hide hw
 have HL := hide hl
 clear h hw hl
 go_enter Try.func9,Try.ntmps9
 go_wp2_with fail
 refine (kept_any g c n cap a xs _ base (((unhide H).alloc _).alloc _) hb (unhide HW) (((unhide HL).alloc _).alloc _)).mono ?_
 rintro e w1 ⟨rfl,hb1⟩
 have hS := (Fs.two w _ _ _ _).kept hb1
 obtain ⟨⟨z1_0_0,z1_0_1,z1_0_2,-⟩,⟨z1_1_0,z1_1_1,z1_1_2,-⟩,-⟩ := hS.cells
 go_wp2
 go_ret
 exact ⟨rfl,hS.fr⟩
set_option maxHeartbeats 400000 in
theorem still_false (g c n cap base : Nat) (a : Option Addr) (xs : List Nat) (x : Int) (w : World) (h : Lt w base g n c xs) (hb : n ≤ 35184372087808) (hw : Pl.Wf xs) (hl : Lim w a xs) :
  Calls Try.prog 9 #[.agg #[.bool false,.slice (some ⟨g,0,none⟩) n c,.int .i64 x],.agg #[.bool false,.slice a n cap,.int .i64 x]] w fun e w' => e = .returned (.bool true) ∧ Below w.heap.size w w' := by
 have H := hide h
 have HW := hide hw
 have HL := hide hl
 clear h hw hl
 go_enter Try.func9,Try.ntmps9
 go_wp2_with fail
 refine (kept_any g c n cap a xs _ base (((unhide H).alloc _).alloc _) hb (unhide HW) (((unhide HL).alloc _).alloc _)).mono ?_
 rintro e w1 ⟨rfl,hb1⟩
 have hS := (Fs.two w _ _ _ _).kept hb1
 obtain ⟨⟨z1_0_0,z1_0_1,z1_0_2,-⟩,⟨z1_1_0,z1_1_1,z1_1_2,-⟩,-⟩ := hS.cells
 go_wp2
 go_ret
 exact ⟨rfl,hS.fr⟩
theorem still_any (s : Bool) (g c n cap base : Nat) (a : Option Addr) (xs : List Nat) (x : Int) (w : World) (h : Lt w base g n c xs) (hb : n ≤ 35184372087808) (hw : Pl.Wf xs) (hl : Lim w a xs) :
  Calls Try.prog 9 #[.agg #[.bool s,.slice (some ⟨g,0,none⟩) n c,.int .i64 x],.agg #[.bool s,.slice a n cap,.int .i64 x]] w fun e w' => e = .returned (.bool true) ∧ Below w.heap.size w w' := by
 cases s
 ·exact still_false g c n cap base a xs x w h hb hw hl
 ·exact still_true g c n cap base a xs x w h hb hw hl
set_option maxHeartbeats 2000000 in
theorem exactBits_walk (E F : Int) (s : Bool) (a : Option Addr) (n cap : Nat) (xs : List Nat) (x v er : Int) (i : Bool) (w : World) (hn : xs.length = n) (hb : n ≤ 35184372087808) (hl : Lim w a xs) (hw : Pl.Wf xs)
  (hR : Hid (∀ W,Lim W a xs → Calls Try.prog 4 #[.agg #[.int .i64 E,.int .i64 F],.agg #[.bool s,.slice a n cap,.int .i64 x]] W fun e w' => e = .returned (.tuple #[.int .u64 v,.bool i,.int .i64 er]) ∧ Below W.heap.size W w'))
  (hE : Hid (∀ W g c,Lim W (some ⟨g,0,none⟩) xs → Calls Try.prog 6 #[.agg #[.int .i64 E,.int .i64 F],.agg #[.bool s,.slice (some ⟨g,0,none⟩) n c,.int .i64 x]] W fun e w' => e = .returned (.tuple #[.int .u64 v,.bool i,.int .i64 er]) ∧ Below W.heap.size W w')) :
  Calls Try.prog 3 #[.agg #[.int .i64 E,.int .i64 F],.agg #[.bool s,.slice a n cap,.int .i64 x]] w fun e w' => e = .returned (.bool true) ∧ Below w.heap.size w w' := by
 have HL := hide hl
 have HW := hide hw
 have HN := hide hn
 clear hl hw hn
 have hbig : n ≤ 9223372036854775807 := by omega
 go_enter Try.func3,Try.ntmps3
 go_wp2_with fail
 refine (unhide hR _ (((unhide HL).alloc _).alloc _)).mono ?_
 rintro e w1 ⟨rfl,hb1⟩
 have hS := (Fs.two w _ _ _ _).kept hb1
 obtain ⟨⟨z1_0_0,z1_0_1,-⟩,⟨z1_1_0,z1_1_1,z1_1_2,-⟩,-⟩ := hS.cells
 go_wp2_with fail
 refine (own_any s a n cap xs x _ (unhide HN) ((unhide HL).below hS.fr) hb).mono ?_
 rintro e w2 ⟨⟨g,c,rfl,f2⟩,hb2⟩
 replace hS := hS.kept hb2
 clear z1_0_0 z1_0_1 z1_1_0 z1_1_1 z1_1_2
 obtain ⟨⟨z2_0_0,z2_0_1,-⟩,⟨z2_1_0,z2_1_1,z2_1_2,-⟩,-⟩ := hS.cells
 have L2 := hide ((unhide HL).below hS.fr)
 have hT := (show Fs w2 w2 _ from ⟨hS.bx,Below.refl _ _⟩).alloc #[.bool s,.slice (some ⟨g,0,none⟩) n c,.int .i64 x] 28
 have hlt0 : w.heap.size < w2.heap.size := block_lt (hS.bx ⟨w.heap.size,#[.int .i64 E,.int .i64 F],23⟩ (by simp))
 have hlt1 : w.heap.size + 1 < w2.heap.size := block_lt (hS.bx ⟨w.heap.size + 1,#[.bool s,.slice a n cap,.int .i64 x],28⟩ (by simp))
 have F2 := hide f2
 clear f2
 go_wp2_with fail
 refine (unhide hE _ g c ((unhide F2).alloc _).lim).mono ?_
 rintro e w3 ⟨rfl,hb3⟩
 replace hT := hT.kept hb3
 clear z2_0_0 z2_0_1 z2_1_0 z2_1_1 z2_1_2
 obtain ⟨⟨y0_0,y0_1,y0_2,-⟩,⟨y1_0,y1_1,-⟩,⟨y2_0,y2_1,y2_2,-⟩,-⟩ := hT.cells
 go_wp2_with fail
 refine wp_region_any (by kernel_rfl) ?_
 refine wpAny_det [some (28,.int .u64 v),some (29,.int .u64 v),some (30,.bool true),some (31,.bool true),some (32,.bool i),some (33,.bool i),some (34,.bool true),some (35,.bool true),some (36,.bool true),some (37,.int .i64 er),some (38,.int .i64 er),some (39,.bool true),some (40,.bool true),some (41,.bool true),some (42,.agg #[.bool s,.slice (some ⟨g,0,none⟩) n c,.int .i64 x]),some (43,.int .i64 (dck s xs x)),some (44,.agg #[.bool s,.slice a n cap,.int .i64 x]),some (45,.int .i64 (dck s xs x)),some (46,.bool true),some (47,.bool true),some (48,.bool true),some (49,.agg #[.bool s,.slice (some ⟨g,0,none⟩) n c,.int .i64 x]),some (50,.agg #[.bool s,.slice a n cap,.int .i64 x]),some (51,.bool true),some (52,.bool true),some (4,.bool true)]
  (fun _ W9 => Fs w2 W9 [⟨w2.heap.size,#[.bool s,.slice (some ⟨g,0,none⟩) n c,.int .i64 x],28⟩,⟨w.heap.size,#[.int .i64 E,.int .i64 F],23⟩,⟨w.heap.size + 1,#[.bool s,.slice a n cap,.int .i64 x],28⟩]) _ _ rfl (by kernel_rfl) rfl rfl ?_ ?_ (hT).drew
 ·intro l9 t9 W9 i9 hD hi9 hl9 hM
  obtain ⟨o9,ho9,hd9⟩ := (mem_ready.1 hi9).2
  have hin9 : i9 < 26 := by
   by_cases h : i9 < 26
   ·exact h
   ·rw [Array.getElem?_eq_none (by rw [hD.len]; simp; omega)] at hl9; cases hl9
  have hcase : i9 = 0 ∨ i9 = 1 ∨ i9 = 2 ∨ i9 = 3 ∨ i9 = 4 ∨ i9 = 5 ∨ i9 = 6 ∨ i9 = 7 ∨ i9 = 8 ∨ i9 = 9 ∨ i9 = 10 ∨ i9 = 11 ∨ i9 = 12 ∨ i9 = 13 ∨ i9 = 14 ∨ i9 = 15 ∨ i9 = 16 ∨ i9 = 17 ∨ i9 = 18 ∨ i9 = 19 ∨ i9 = 20 ∨ i9 = 21 ∨ i9 = 22 ∨ i9 = 23 ∨ i9 = 24 ∨ i9 = 25 := by omega
  clear hin9
  rcases hcase with rfl | rfl | rfl | rfl | rfl | rfl | rfl | rfl | rfl | rfl | rfl | rfl | rfl | rfl | rfl | rfl | rfl | rfl | rfl | rfl | rfl | rfl | rfl | rfl | rfl | rfl
  ·cases ho9
   have r9 := hD.old 9 _ rfl rfl
   clear hD hd9 hi9
   refine wpOp_step rfl (fun K hK => ?_)
   go_simp
   exact hK _ _ ⟨rfl,hM⟩
  ·cases ho9
   have r5 := hD.old 5 _ rfl rfl
   clear hD hd9 hi9
   refine wpOp_step rfl (fun K hK => ?_)
   go_simp
   exact hK _ _ ⟨rfl,hM⟩
  ·cases ho9
   have r28 := hD.on 0 28 _ rfl (getD_true (hd9 ⟨0,.data⟩ (by simp) rfl))
   have r29 := hD.on 1 29 _ rfl (getD_true (hd9 ⟨1,.data⟩ (by simp) rfl))
   clear hD hd9 hi9
   refine wpOp_step rfl (fun K hK => ?_)
   go_simp
   exact hK _ _ ⟨act_eq (by (show Value.bool _ = Value.bool _; simp)),hM⟩
  ·cases ho9
   have r30 := hD.on 2 30 _ rfl (getD_true (hd9 ⟨2,.data⟩ (by simp) rfl))
   clear hD hd9 hi9
   refine wpOp_step rfl (fun K hK => ?_)
   go_simp
   exact hK _ _ ⟨rfl,hM⟩
  ·cases ho9
   have r31 := hD.on 3 31 _ rfl (getD_true (hd9 ⟨3,.guard⟩ (by simp) rfl))
   have r10 := hD.old 10 _ rfl rfl
   clear hD hd9 hi9
   refine wpOp_step rfl (fun K hK => ?_)
   go_simp
   exact hK _ _ ⟨rfl,hM⟩
  ·cases ho9
   have r31 := hD.on 3 31 _ rfl (getD_true (hd9 ⟨3,.guard⟩ (by simp) rfl))
   have r6 := hD.old 6 _ rfl rfl
   clear hD hd9 hi9
   refine wpOp_step rfl (fun K hK => ?_)
   go_simp
   exact hK _ _ ⟨rfl,hM⟩
  ·cases ho9
   have r31 := hD.on 3 31 _ rfl (getD_true (hd9 ⟨3,.guard⟩ (by simp) rfl))
   have r32 := hD.on 4 32 _ rfl (getD_true (hd9 ⟨4,.data⟩ (by simp) rfl))
   have r33 := hD.on 5 33 _ rfl (getD_true (hd9 ⟨5,.data⟩ (by simp) rfl))
   clear hD hd9 hi9
   refine wpOp_step rfl (fun K hK => ?_)
   go_simp
   exact hK _ _ ⟨act_eq (by (show Value.bool _ = Value.bool _; simp)),hM⟩
  ·cases ho9
   have r31 := hD.on 3 31 _ rfl (getD_true (hd9 ⟨3,.data⟩ (by simp) rfl))
   have r34 := hD.on 6 34 _ rfl (getD_true (hd9 ⟨6,.data⟩ (by simp) rfl))
   clear hD hd9 hi9
   refine wpOp_step rfl (fun K hK => ?_)
   go_simp
   exact hK _ _ ⟨rfl,hM⟩
  ·cases ho9
   have r35 := hD.on 7 35 _ rfl (getD_true (hd9 ⟨7,.data⟩ (by simp) rfl))
   clear hD hd9 hi9
   refine wpOp_step rfl (fun K hK => ?_)
   go_simp
   exact hK _ _ ⟨rfl,hM⟩
  ·cases ho9
   have r36 := hD.on 8 36 _ rfl (getD_true (hd9 ⟨8,.guard⟩ (by simp) rfl))
   have r11 := hD.old 11 _ rfl rfl
   clear hD hd9 hi9
   refine wpOp_step rfl (fun K hK => ?_)
   go_simp
   exact hK _ _ ⟨rfl,hM⟩
  ·cases ho9
   have r36 := hD.on 8 36 _ rfl (getD_true (hd9 ⟨8,.guard⟩ (by simp) rfl))
   have r7 := hD.old 7 _ rfl rfl
   clear hD hd9 hi9
   refine wpOp_step rfl (fun K hK => ?_)
   go_simp
   exact hK _ _ ⟨rfl,hM⟩
  ·cases ho9
   have r36 := hD.on 8 36 _ rfl (getD_true (hd9 ⟨8,.guard⟩ (by simp) rfl))
   have r37 := hD.on 9 37 _ rfl (getD_true (hd9 ⟨9,.data⟩ (by simp) rfl))
   have r38 := hD.on 10 38 _ rfl (getD_true (hd9 ⟨10,.data⟩ (by simp) rfl))
   clear hD hd9 hi9
   refine wpOp_step rfl (fun K hK => ?_)
   go_simp
   exact hK _ _ ⟨act_eq (by (show Value.bool _ = Value.bool _; simp)),hM⟩
  ·cases ho9
   have r36 := hD.on 8 36 _ rfl (getD_true (hd9 ⟨8,.data⟩ (by simp) rfl))
   have r39 := hD.on 11 39 _ rfl (getD_true (hd9 ⟨11,.data⟩ (by simp) rfl))
   clear hD hd9 hi9
   refine wpOp_step rfl (fun K hK => ?_)
   go_simp
   exact hK _ _ ⟨rfl,hM⟩
  ·cases ho9
   have r40 := hD.on 12 40 _ rfl (getD_true (hd9 ⟨12,.data⟩ (by simp) rfl))
   clear hD hd9 hi9
   refine wpOp_step rfl (fun K hK => ?_)
   go_simp
   exact hK _ _ ⟨rfl,hM⟩
  ·cases ho9
   have r41 := hD.on 13 41 _ rfl (getD_true (hd9 ⟨13,.guard⟩ (by simp) rfl))
   have r8 := hD.old 8 _ rfl rfl
   have hM0 := hM
   have c9_0 := hM0.cellAt (b := w2.heap.size) (cs := #[.bool s,.slice (some ⟨g,0,none⟩) n c,.int .i64 x]) (t := 28) (by simp) 0 _ rfl
   have c9_1 := hM0.cellAt (b := w2.heap.size) (cs := #[.bool s,.slice (some ⟨g,0,none⟩) n c,.int .i64 x]) (t := 28) (by simp) 1 _ rfl
   have c9_2 := hM0.cellAt (b := w2.heap.size) (cs := #[.bool s,.slice (some ⟨g,0,none⟩) n c,.int .i64 x]) (t := 28) (by simp) 2 _ rfl
   clear hM0
   clear hD hd9 hi9
   refine wpOp_step rfl (fun K hK => ?_)
   go_simp
   exact hK _ _ ⟨rfl,hM⟩
  ·cases ho9
   have r41 := hD.on 13 41 _ rfl (getD_true (hd9 ⟨13,.chain⟩ (by simp) rfl))
   have r42 := hD.on 14 42 _ rfl (getD_true (hd9 ⟨14,.data⟩ (by simp) rfl))
   clear hD hd9 hi9
   refine wpOp_step rfl (fun K hK => ?_)
   go_simp
   go_wp2_with fail
   refine (dcheck_any s (some ⟨g,0,none⟩) n c xs x _ (unhide HN) hbig ((unhide F2).kept hM.fr).lim (unhide HW)).mono ?_
   rintro en w9 ⟨rfl,hb9⟩
   exact hK _ _ ⟨rfl,hM.kept hb9⟩
  ·cases ho9
   have r41 := hD.on 13 41 _ rfl (getD_true (hd9 ⟨13,.guard⟩ (by simp) rfl))
   have r3 := hD.old 3 _ rfl rfl
   have hM0 := hM
   have c9_0 := hM0.cellAt (b := w.heap.size + 1) (cs := #[.bool s,.slice a n cap,.int .i64 x]) (t := 28) (by simp) 0 _ rfl
   have c9_1 := hM0.cellAt (b := w.heap.size + 1) (cs := #[.bool s,.slice a n cap,.int .i64 x]) (t := 28) (by simp) 1 _ rfl
   have c9_2 := hM0.cellAt (b := w.heap.size + 1) (cs := #[.bool s,.slice a n cap,.int .i64 x]) (t := 28) (by simp) 2 _ rfl
   clear hM0
   clear hD hd9 hi9
   refine wpOp_step rfl (fun K hK => ?_)
   go_simp
   exact hK _ _ ⟨rfl,hM⟩
  ·cases ho9
   have r41 := hD.on 13 41 _ rfl (getD_true (hd9 ⟨13,.guard⟩ (by simp) rfl))
   have r44 := hD.on 16 44 _ rfl (getD_true (hd9 ⟨16,.data⟩ (by simp) rfl))
   clear hD hd9 hi9
   refine wpOp_step rfl (fun K hK => ?_)
   go_simp
   go_wp2_with fail
   refine (drcheck_any s a n cap xs x _ (unhide HN) hbig ((unhide L2).below hM.fr) (unhide HW)).mono ?_
   rintro en w9 ⟨rfl,hb9⟩
   exact hK _ _ ⟨rfl,hM.kept hb9⟩
  ·cases ho9
   have r41 := hD.on 13 41 _ rfl (getD_true (hd9 ⟨13,.guard⟩ (by simp) rfl))
   have r43 := hD.on 15 43 _ rfl (getD_true (hd9 ⟨15,.data⟩ (by simp) rfl))
   have r45 := hD.on 17 45 _ rfl (getD_true (hd9 ⟨17,.data⟩ (by simp) rfl))
   clear hD hd9 hi9
   refine wpOp_step rfl (fun K hK => ?_)
   go_simp
   exact hK _ _ ⟨act_eq (by (show Value.bool _ = Value.bool _; simp)),hM⟩
  ·cases ho9
   have r41 := hD.on 13 41 _ rfl (getD_true (hd9 ⟨13,.data⟩ (by simp) rfl))
   have r46 := hD.on 18 46 _ rfl (getD_true (hd9 ⟨18,.data⟩ (by simp) rfl))
   clear hD hd9 hi9
   refine wpOp_step rfl (fun K hK => ?_)
   go_simp
   exact hK _ _ ⟨rfl,hM⟩
  ·cases ho9
   have r47 := hD.on 19 47 _ rfl (getD_true (hd9 ⟨19,.data⟩ (by simp) rfl))
   clear hD hd9 hi9
   refine wpOp_step rfl (fun K hK => ?_)
   go_simp
   exact hK _ _ ⟨rfl,hM⟩
  ·cases ho9
   have r48 := hD.on 20 48 _ rfl (getD_true (hd9 ⟨20,.guard⟩ (by simp) rfl))
   have r8 := hD.old 8 _ rfl rfl
   have hM0 := hM
   have c9_0 := hM0.cellAt (b := w2.heap.size) (cs := #[.bool s,.slice (some ⟨g,0,none⟩) n c,.int .i64 x]) (t := 28) (by simp) 0 _ rfl
   have c9_1 := hM0.cellAt (b := w2.heap.size) (cs := #[.bool s,.slice (some ⟨g,0,none⟩) n c,.int .i64 x]) (t := 28) (by simp) 1 _ rfl
   have c9_2 := hM0.cellAt (b := w2.heap.size) (cs := #[.bool s,.slice (some ⟨g,0,none⟩) n c,.int .i64 x]) (t := 28) (by simp) 2 _ rfl
   clear hM0
   clear hD hd9 hi9
   refine wpOp_step rfl (fun K hK => ?_)
   go_simp
   exact hK _ _ ⟨rfl,hM⟩
  ·cases ho9
   have r48 := hD.on 20 48 _ rfl (getD_true (hd9 ⟨20,.guard⟩ (by simp) rfl))
   have r3 := hD.old 3 _ rfl rfl
   have hM0 := hM
   have c9_0 := hM0.cellAt (b := w.heap.size + 1) (cs := #[.bool s,.slice a n cap,.int .i64 x]) (t := 28) (by simp) 0 _ rfl
   have c9_1 := hM0.cellAt (b := w.heap.size + 1) (cs := #[.bool s,.slice a n cap,.int .i64 x]) (t := 28) (by simp) 1 _ rfl
   have c9_2 := hM0.cellAt (b := w.heap.size + 1) (cs := #[.bool s,.slice a n cap,.int .i64 x]) (t := 28) (by simp) 2 _ rfl
   clear hM0
   clear hD hd9 hi9
   refine wpOp_step rfl (fun K hK => ?_)
   go_simp
   exact hK _ _ ⟨rfl,hM⟩
  ·cases ho9
   have r48 := hD.on 20 48 _ rfl (getD_true (hd9 ⟨20,.chain⟩ (by simp) rfl))
   have r49 := hD.on 21 49 _ rfl (getD_true (hd9 ⟨21,.data⟩ (by simp) rfl))
   have r50 := hD.on 22 50 _ rfl (getD_true (hd9 ⟨22,.data⟩ (by simp) rfl))
   clear hD hd9 hi9
   refine wpOp_step rfl (fun K hK => ?_)
   go_simp
   go_wp2_with fail
   refine (still_any s g c n cap _ a xs x _ ((unhide F2).kept hM.fr) hb (unhide HW) ((unhide L2).below hM.fr)).mono ?_
   rintro en w9 ⟨rfl,hb9⟩
   exact hK _ _ ⟨rfl,hM.kept hb9⟩
  ·cases ho9
   have r48 := hD.on 20 48 _ rfl (getD_true (hd9 ⟨20,.data⟩ (by simp) rfl))
   have r51 := hD.on 23 51 _ rfl (getD_true (hd9 ⟨23,.data⟩ (by simp) rfl))
   clear hD hd9 hi9
   refine wpOp_step rfl (fun K hK => ?_)
   go_simp
   exact hK _ _ ⟨rfl,hM⟩
  ·cases ho9
   have r52 := hD.on 24 52 _ rfl (getD_true (hd9 ⟨24,.data⟩ (by simp) rfl))
   clear hD hd9 hi9
   refine wpOp_step rfl (fun K hK => ?_)
   go_simp
   exact hK _ _ ⟨rfl,hM⟩
 ·intro l9 W9 hl9 hM
  clear hl9
  simp only [Puts.lay,List.setIfInBounds_toArray,List.set_cons_zero,List.set_cons_succ]
  go_wp2
  go_ret
  exact ⟨rfl,gr_trans hS.fr hM.fr⟩
end Go.Proofs.Ytjemjhaphannaaa
