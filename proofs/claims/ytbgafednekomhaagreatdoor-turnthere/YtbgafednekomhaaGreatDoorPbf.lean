/- Of what TurnThereRow stands on: TnThereLaw. -/
import Derived.Test.YtbgafednekomhaaGreatDoorPbe
namespace Go.Proofs.YtbgafednekomhaaGreatDoor
open Ieee Go.RowKit
theorem form_casesT (E F:Int):NoFo E F∨∃ e f S I:Nat,E = (e:Int)∧F = (f:Int)∧Fm e f S I:=by
 by_cases h:NoFo E F
 ·exact Or.inl h
 ·unfold NoFo at h
  exact Or.inr ⟨E.toNat,F.toNat,_,_,by omega,by omega,⟨⟨by omega,by omega,by omega,by omega⟩,rfl,rfl⟩⟩
theorem ord64 {a b:Nat} {u v:Int} (ha:Nv a u) (hb:Nv b v):FloatKind.f64.format.order a b = some (compare u v):=ord_nv ha hb
theorem cmp_b_lt (u v:Int):(some (compare u v) == some Ordering.lt) = decide (u < v):=by
 by_cases h:u < v
 ·rw [cmp_lt.2 h,decide_eq_true h]; rfl
 ·rw [decide_eq_false h]
  cases hc:compare u v with
  | lt=>exact absurd (cmp_lt.1 hc) h
  | eq=>rfl
  | gt=>rfl
theorem cmp_b_eq (u v:Int):(some (compare u v) == some Ordering.eq) = decide (u = v):=by
 by_cases h:u = v
 ·rw [cmp_eq.2 h,decide_eq_true h]; rfl
 ·rw [decide_eq_false h]
  cases hc:compare u v with
  | eq=>exact absurd (cmp_eq.1 hc) h
  | lt=>rfl
  | gt=>rfl
theorem cmp_b_gt (u v:Int):(some (compare u v) == some Ordering.gt) = decide (v < u):=by
 by_cases h:v < u
 ·rw [cmp_gt.2 h,decide_eq_true h]; rfl
 ·rw [decide_eq_false h]
  cases hc:compare u v with
  | gt=>exact absurd (cmp_gt.1 hc) h
  | lt=>rfl
  | eq=>rfl
theorem le_or {u v:Int} (h:u≤v):(decide (u < v) || decide (u = v)) = true:=by
 rcases Int.lt_or_eq_of_le h with h|h <;> simp [h]
theorem le_or_no {u v:Int} (h:v < u):(decide (u < v) || decide (u = v)) = false:=by
 simp; omega
theorem conv_i64 {a:Nat} {k:Int} (h:floatToIntVal .f64 a .i64 = some k) (W:World):(convert 49 2 (.float .f64 a)).run Tryz.prog W = .ok (.int .i64 k) W:=run_convert_float_int W _ _ .f64 .i64 _ _ (by kernel_rfl) (by kernel_rfl) h
theorem conv_u64 {a:Nat} {k:Int} (h:floatToIntVal .f64 a .u64 = some k) (W:World):(convert 49 25 (.float .f64 a)).run Tryz.prog W = .ok (.int .u64 k) W:=run_convert_float_int W _ _ .f64 .u64 _ _ (by kernel_rfl) (by kernel_rfl) h
theorem conv_f64 {b a:Nat} (h:floatToFloatBits .f32 b .f64 = some a) (W:World):(convert 32 49 (.float .f32 b)).run Tryz.prog W = .ok (.float .f64 a) W:=run_convert_float_float W _ _ .f32 .f64 _ _ (by kernel_rfl) (by kernel_rfl) h
theorem cut_in {a:Nat} {v:Int} (h:Nv a v) (h1:-9223372036854775808 * ((2 ^ gz:Nat):Int)≤v) (h2:v < 9223372036854775808 * ((2 ^ gz:Nat):Int)):Tel 25 #[.float .f64 a] (.tuple #[.int .i64 (v.tdiv ((2 ^ gz:Nat):Int)),.bool true]):=fun W=>
 CutI_in a _ _ _ (by rw [ord64 nv_m63 h,cmp_b_lt]) (by rw [ord64 nv_m63 h,cmp_b_eq]) (le_or h1) (by rw [ord64 h nv_63,cmp_b_lt,decide_eq_true h2]) (conv_i64 (toInt_nv h h1 h2)) W
theorem cutS_in {b a:Nat} {v:Int} (h0:floatToFloatBits .f32 b .f64 = some a) (h:Nv a v) (h1:-9223372036854775808 * ((2 ^ gz:Nat):Int)≤v) (h2:v < 9223372036854775808 * ((2 ^ gz:Nat):Int)):Tel 27 #[.float .f32 b] (.tuple #[.int .i64 (v.tdiv ((2 ^ gz:Nat):Int)),.bool true]):=fun W=>
 CutS_in b a _ _ _ (conv_f64 h0) (by rw [ord64 nv_m63 h,cmp_b_lt]) (by rw [ord64 nv_m63 h,cmp_b_eq]) (le_or h1) (by rw [ord64 h nv_63,cmp_b_lt,decide_eq_true h2]) (conv_i64 (toInt_nv h h1 h2)) W
theorem toIntU_nv {b:Nat} {v:Int} (h:Nv b v) (h1:9223372036854775808 * ((2 ^ gz:Nat):Int)≤v) (h2:v < 18446744073709551616 * ((2 ^ gz:Nat):Int)):∃ k,floatToIntVal .f64 b .u64 = some k∧9223372036854775808≤k∧k < 18446744073709551616:=by
 obtain ⟨s,m,i,hr,hi,rfl⟩:=h
 have e1:FloatKind.f64.decode b = .number s m i:=hr
 have ev:signed s m (i+gz).toNat = signed s (m * 2 ^ (i+gz).toNat) 0:=by rw [signed_mul,Nat.add_zero]
 rw [ev] at h1 h2
 refine ⟨signed s (m * 2 ^ (i+gz).toNat / 2 ^ gz) 0,?_,?_⟩
 rotate_left
 ·rw [signed_tdiv]
  generalize signed s (m * 2 ^ (i+gz).toNat) 0 = A at h1 h2
  have hg:=gpos
  generalize ((2 ^ gz:Nat):Int) = G at h1 h2 hg ⊢
  rw [Int.tdiv_eq_ediv_of_nonneg (by omega)]
  exact ⟨Int.le_ediv_of_mul_le hg h1,Int.ediv_lt_of_lt_mul hg h2⟩
 ·have hb:(0:Int)≤signed s (m * 2 ^ (i+gz).toNat / 2 ^ gz) 0∧signed s (m * 2 ^ (i+gz).toNat / 2 ^ gz) 0≤18446744073709551615:=by
   rw [signed_tdiv]
   generalize signed s (m * 2 ^ (i+gz).toNat) 0 = A at h1 h2
   have hg:=gpos
   generalize ((2 ^ gz:Nat):Int) = G at h1 h2 hg ⊢
   rw [Int.tdiv_eq_ediv_of_nonneg (by omega)]
   have u1:=Int.ediv_lt_of_lt_mul hg h2
   have u2:=Int.le_ediv_of_mul_le hg h1
   omega
  unfold floatToIntVal
  rw [e1,toInt_num s m i hi]
  show (if IntKind.u64.min≤_∧_≤IntKind.u64.max then some _ else none) = _
  exact if_pos hb
theorem cut_lo {a:Nat} {v:Int} (h:Nv a v) (h1:v < -9223372036854775808 * ((2 ^ gz:Nat):Int)):Tel 25 #[.float .f64 a] (.tuple #[.int .i64 0,.bool false]):=fun W=>by
 have hg:=gpos
 exact CutI_lo a _ _ _ _ (by rw [ord64 nv_m63 h,cmp_b_lt]) (by rw [ord64 nv_m63 h,cmp_b_eq]) (le_or_no h1) (by rw [ord64 nv_63 h,cmp_b_lt]) (by rw [ord64 nv_63 h,cmp_b_eq]) (le_or_no (by omega)) W
theorem cut_hi {a:Nat} {v:Int} (h:Nv a v) (h1:9223372036854775808 * ((2 ^ gz:Nat):Int)≤v):Tel 25 #[.float .f64 a] (.tuple #[.int .i64 0,.bool false]):=fun W=>by
 have hg:=gpos
 by_cases h2:v < 18446744073709551616 * ((2 ^ gz:Nat):Int)
 ·obtain ⟨k,hk,hk1,hk2⟩:=toIntU_nv h h1 h2
  exact CutI_u a k _ _ _ _ (by rw [ord64 nv_m63 h,cmp_b_lt]) (by rw [ord64 nv_m63 h,cmp_b_eq]) (le_or (by omega)) (by rw [ord64 h nv_63,cmp_b_lt,decide_eq_false (by omega)]) (by rw [ord64 nv_63 h,cmp_b_lt]) (by rw [ord64 nv_63 h,cmp_b_eq]) (le_or h1) (by rw [ord64 h nv_64,cmp_b_lt,decide_eq_true h2]) (conv_u64 hk) hk1 hk2 W
 ·exact CutI_hi a _ _ _ _ (by rw [ord64 nv_m63 h,cmp_b_lt]) (by rw [ord64 nv_m63 h,cmp_b_eq]) (le_or (by omega)) (by rw [ord64 h nv_63,cmp_b_lt,decide_eq_false (by omega)]) (by rw [ord64 nv_63 h,cmp_b_lt]) (by rw [ord64 nv_63 h,cmp_b_eq]) (le_or h1) (by rw [ord64 h nv_64,cmp_b_lt,decide_eq_false h2]) W
theorem toIntegral_num {a m : Nat} {s : Bool} {i : Int} (e1 : FloatKind.f64.decode a = .number s m i) : Extern.MathFloor.toIntegral "math.archTrunc" .zero #[.float .f64 a] = pure (.float .f64 (double.write ((Datum.number s m i).integral .zero))) := by
 conv=>lhs; whnf
 rw [e1]
 rfl
inductive FiCase (E F n:Int) (d:Nat):Prop where
 | e (bi fl er:Int) (h:(er == (0:Int)) = false) (hf:FiIs E F n d bi fl er)
 | f (bi fl:Int) (h:(fl == (0:Int)) = false) (hf:FiIs E F n d bi fl 0)
 | i (bi:Int) (hf:FiIs E F n d bi 0 0) (hi:InIs E F bi 64 d n 0 0)
theorem fi_case (E F n:Int) (d:Nat) (hd:d≤4) (h1:-9223372036854775808≤n) (h2:n < 9223372036854775808):FiCase E F n d:=by
 rcases form_casesT E F with hn|⟨E,F,S,I,rfl,rfl,h⟩
 ·exact .e _ _ 5 rfl (fromInt_form hn n h1 h2 d)
 by_cases h0:n = 0
 ·subst h0
  exact .i 0 (fromInt_zero h hd) (int_zero (b:=0) (neg:=false) h hd ⟨pow_pos2 F,pow_pos2 E,by simp⟩)
 obtain ⟨B,hB⟩:∃ B,B = 2 ^ (E - 1) - 1:=⟨_,rfl⟩
 obtain ⟨z,hz,hz2⟩:=tz_ex (M:=n.natAbs) (f:=64) (by omega) (lt64 (by omega))
 have hk:=bl_blen (n.natAbs / 2 ^ z)
 have hf:=fromInt_any h hB hd n h0 h1 h2 hz hz2 hk
 obtain ⟨hodd,hback⟩:=hz.down
 generalize blen (n.natAbs / 2 ^ z) = k at hk hf
 by_cases hfl:flagR B F I d (decide (n < 0)) (n.natAbs / 2 ^ z) k (z:Int) = 0
 ·obtain ⟨b2,b1⟩:=bias2 h.fo.e2 hB
  have hI:I = (2 * B+1) * 2 ^ F:=by rw [b2]; exact h.hI
  have hk0:0 < k:=by
   have:=hk.1
   rcases Nat.eq_zero_or_pos k with h|h
   ·rw [h,Nat.pow_zero] at this; rw [Nat.lt_one_iff.1 this] at hodd; cases hodd
   ·exact h
  have hge:2 ^ (k - 1)≤n.natAbs / 2 ^ z:=by
   rcases hk.2 with h|h
   ·omega
   ·exact h
  unfold flagR at hfl
  by_cases hr:I≤rowR B F d (decide (n < 0)) (n.natAbs / 2 ^ z) k (z:Int)
  ·rw [if_pos hr] at hfl; cases hfl
  rw [if_neg hr] at hfl
  by_cases hl:lastP B F k (z:Int)≤(z:Int)
  case neg=>
   rw [if_neg hl] at hfl
   split at hfl <;> cases hfl
  have hl2:=hl
  unfold lastP at hl2
  have hhi:(z:Int)+(k:Int) - 1≤(B:Int):=by
   refine Int.not_lt.1 fun hc=>hr ?_
   have hla:lastP B F k (z:Int) = (z:Int)+(k:Int) - 1 - (F:Int):=by unfold lastP; omega
   unfold rowR cutR
   rw [if_pos hl,hla,show ((z:Int) - ((z:Int)+(k:Int) - 1 - (F:Int))).toNat = F+1 - k from by omega,hI]
   have g1:2 ^ F≤n.natAbs / 2 ^ z * 2 ^ (F+1 - k):=by
    have:2 ^ (k - 1) * 2 ^ (F+1 - k)≤n.natAbs / 2 ^ z * 2 ^ (F+1 - k):=Nat.mul_le_mul_right _ hge
    rw [← Nat.pow_add,show k - 1+(F+1 - k) = F from by omega] at this
    exact this
   have g2:2 * B * 2 ^ F≤((z:Int)+(k:Int) - 1 - (F:Int) - (1 - (B:Int) - (F:Int))).toNat * 2 ^ F:=Nat.mul_le_mul_right _ (by omega)
   rw [Nat.add_mul,Nat.one_mul]
   omega
  obtain ⟨ex,fr,M,z',xe,hW,e1,e2⟩:=wo_of (E:=E) (F:=F) (B:=B) hk hodd (by omega) (by omega) hhi b2
  have hfin:=hW.fin
  have hBt:Bt E F ((decide (n < 0)).toNat * 2 ^ (F+E)+(ex * 2 ^ F+fr)) (decide (n < 0)) ex fr:=⟨hW.frl,by omega,rfl⟩
  generalize (decide (n < 0)).toNat * 2 ^ (F+E)+(ex * 2 ^ F+fr) = b at hBt
  rw [← e1] at hk
  obtain ⟨r1,r2⟩:=worth_round h hBt hW hk d
  rw [← e1,← e2,r1,r2] at hf
  have hi:=int_whole (x:=z) (u:=n.natAbs) h hB hd hBt hW e2 (by rw [e1]; exact hback) (by
   by_cases hn:n < 0
   ·exact Or.inr ⟨decide_eq_true hn,by omega⟩
   ·exact Or.inl ⟨decide_eq_false hn,by omega⟩)
  have hnn:(if decide (n < 0) = true then -((n.natAbs:Nat):Int) else ((n.natAbs:Nat):Int)) = n:=by
   by_cases hn:n < 0
   ·rw [if_pos (decide_eq_true hn)]; omega
   ·rw [if_neg (by simp; omega)]; omega
  rw [hnn] at hi
  exact .i _ hf hi
 ·exact .f _ _ (by simp; omega) hf
theorem turnThere_any (E F n:Int) (md a:Nat) (w:World) (hT:Tb w) (hN:Nb w) (hn:-9223372036854775808≤n∧n < 9223372036854775808) (ha:a < 18446744073709551616) :
  Calls Tryz.prog 6 #[.agg #[.int .i64 E,.int .i64 F],.int .i64 n,.int .u8 (md:Int),.int .u64 (a:Int)] w fun e w'=>e = .returned (.bool true)∧Below w.heap.size w w':=by
 have hg:=gpos
 have hgz:=gz_eq
 obtain ⟨m,hm⟩:∃ m,n / 1024 = m:=⟨_,rfl⟩
 obtain ⟨p,hp⟩:∃ p,n / 549755813888 = p:=⟨_,rfl⟩
 have hmd:((md:Int)).tmod 5 = ((md % 5:Nat):Int):=by rw [Int.tmod_eq_emod_of_nonneg (by omega)]; omega
 have e53:(2:Nat) ^ 53 = 9007199254740992:=by decide
 have e24:(2:Nat) ^ 24 = 16777216:=by decide
 have rng:∀ q:Int,-9007199254740992≤q→q≤9007199254740992→-9223372036854775808 * ((2 ^ gz:Nat):Int)≤q * ((2 ^ gz:Nat):Int)∧q * ((2 ^ gz:Nat):Int) < 9223372036854775808 * ((2 ^ gz:Nat):Int):=fun q g1 g2=>
  ⟨Int.mul_le_mul_of_nonneg_right (by omega) (by omega),Int.mul_lt_mul_of_pos_right (by omega) hg⟩
 have td:∀ q:Int,(q * ((2 ^ gz:Nat):Int)).tdiv ((2 ^ gz:Nat):Int) = q:=fun q=>Int.mul_tdiv_cancel _ (by omega)
 have HD:Tel 25 #[.float .f64 (floatOfInt .f64 m)] (.tuple #[.int .i64 m,.bool true]):=by
  obtain ⟨r1,r2⟩:=rng m (by omega) (by omega)
  have:=cut_in (int_nv53 m (by omega)) r1 r2
  rw [td] at this
  exact this
 have HS:Tel 27 #[.float .f32 (floatOfInt .f32 p)] (.tuple #[.int .i64 p,.bool true]):=by
  obtain ⟨r1,r2⟩:=rng p (by omega) (by omega)
  obtain ⟨d,hd,hv⟩:=int_nv24 p (by omega)
  have:=cutS_in hd hv r1 r2
  rw [td] at this
  exact this
 have hfi:=fi_case E F n (md % 5) (by omega) hn.1 hn.2
 clear hn rng
 have out:∀ g l:Bool,Tel 25 #[.float .f64 a] (.tuple #[.int .i64 0,.bool false])→(FloatKind.f64.format.order a 14114281232179134464 == some .gt) = g→(FloatKind.f64.format.order a 4890909195324358656 == some .lt) = l→(g = false∨l = false) →
   Calls Tryz.prog 6 #[.agg #[.int .i64 E,.int .i64 F],.int .i64 n,.int .u8 (md:Int),.int .u64 (a:Int)] w fun e w'=>e = .returned (.bool true)∧Below w.heap.size w w':=fun g l hc q1 q2 hgl=>by
  cases g
  ·cases hfi with
   | e bi fl er h hf=>exact there_og_e E F n m p md a _ hm hp hmd HD HS bi fl er h hf hc q1 w hT hN
   | f bi fl h hf=>exact there_og_f E F n m p md a _ hm hp hmd HD HS bi fl h hf hc q1 w hT hN
   | i bi hf hi=>exact there_og_i E F n m p md a _ hm hp hmd HD HS bi hf hi hc q1 w hT hN
  ·obtain rfl:l = false:=by rcases hgl with h|h; cases h; exact h
   cases hfi with
   | e bi fl er h hf=>exact there_ol_e E F n m p md a _ hm hp hmd HD HS bi fl er h hf hc q1 q2 w hT hN
   | f bi fl h hf=>exact there_ol_f E F n m p md a _ hm hp hmd HD HS bi fl h hf hc q1 q2 w hT hN
   | i bi hf hi=>exact there_ol_i E F n m p md a _ hm hp hmd HD HS bi hf hi hc q1 q2 w hT hN
 rcases word_cases a ha with ⟨s,mg,i,hr,hmg,hi1,hi2⟩|⟨s,hr⟩|⟨s,t,hr⟩
 ·obtain ⟨v,hv⟩:∃ v,signed s mg (i+gz).toNat = v:=⟨_,rfl⟩
  have hx:Nv a v:=⟨s,mg,i,hr,hi1,hv⟩
  by_cases c1:v < -9223372036854775808 * ((2 ^ gz:Nat):Int)
  ·exact out false _ (cut_lo hx c1) (by rw [ord64 hx nv_m63,cmp_b_gt,decide_eq_false (by omega)]) rfl (Or.inl rfl)
  by_cases c2:9223372036854775808 * ((2 ^ gz:Nat):Int)≤v
  ·exact out _ false (cut_hi hx c2) rfl (by rw [ord64 hx nv_63,cmp_b_lt,decide_eq_false (by omega)]) (Or.inr rfl)
  obtain ⟨k,hk⟩:∃ k,v.tdiv ((2 ^ gz:Nat):Int) = k:=⟨_,rfl⟩
  have HC:=cut_in hx (by omega) (by omega)
  rw [hk] at HC
  obtain ⟨hy,hTr,r,hr1,hr2,⟨D1,d1,n1⟩,⟨D2,d2,n2⟩⟩:=there_nv hr hmg hi1 hi2 hv hk
  have HT:Tel 29 #[.float .f64 a] (.float .f64 (double.write ((Datum.number s mg i).integral .zero))):=fun W=>Trunc_any a _ (toIntegral_num hr) W
  have q1:(FloatKind.f64.format.order (double.write ((Datum.number s mg i).integral .zero)) (floatOfInt .f64 k) == some .eq) = true:=by rw [ord64 hTr hy,cmp_b_eq,decide_eq_true rfl]
  have s1:∀ W:World,(binOp .sub 49 (.float .f64 a) (.float .f64 (floatOfInt .f64 k))).run Tryz.prog W = .ok (.float .f64 D1) W:=fun W=>run_float_arith W .sub _ .f64 _ _ _ d1
  have s2:∀ W:World,(binOp .sub 49 (.float .f64 (floatOfInt .f64 k)) (.float .f64 a)).run Tryz.prog W = .ok (.float .f64 D2) W:=fun W=>run_float_arith W .sub _ .f64 _ _ _ d2
  have hrb:-((2 ^ gz:Nat):Int) < r∧r < ((2 ^ gz:Nat):Int):=by omega
  have q2:(FloatKind.f64.format.order D1 4607182418800017408 == some .lt) = true:=by rw [ord64 n1 nv_one,cmp_b_lt,decide_eq_true hrb.2]
  have q3:(FloatKind.f64.format.order D2 4607182418800017408 == some .lt) = true:=by rw [ord64 n2 nv_one,cmp_b_lt,decide_eq_true (by omega)]
  have q4:=ord64 hy hx
  have side:(0≤v→k * ((2 ^ gz:Nat):Int)≤v)∧(v≤0→v≤k * ((2 ^ gz:Nat):Int)):=by
   generalize ((2 ^ gz:Nat):Int) = G at hk hg ⊢
   constructor
   ·intro h
    rw [← hk,Int.tdiv_eq_ediv_of_nonneg h]
    exact Int.ediv_mul_le v (by omega)
   ·intro h
    have e:v.tdiv G = -((-v) / G):=by rw [← Int.tdiv_eq_ediv_of_nonneg (by omega),Int.neg_tdiv,Int.neg_neg]
    have:=Int.ediv_mul_le (-v) (b:=G) (by omega)
    rw [← hk,e,Int.neg_mul]
    omega
  rcases Int.lt_trichotomy (k * ((2 ^ gz:Nat):Int)) v with c|c|c
  ·rw [cmp_lt.2 c] at q4
   have q5:(FloatKind.f64.format.order a 0 == some .gt) = true:=by rw [ord64 hx nv_0,cmp_b_gt,decide_eq_true (by omega)]
   cases hfi with
   | e bi fl er h hf=>exact there_lt_e E F n m p md a _ hm hp hmd HD HS bi fl er h hf k _ D1 D2 HC HT q1 s1 s2 q2 q3 q4 q5 w hT hN
   | f bi fl h hf=>exact there_lt_f E F n m p md a _ hm hp hmd HD HS bi fl h hf k _ D1 D2 HC HT q1 s1 s2 q2 q3 q4 q5 w hT hN
   | i bi hf hi=>exact there_lt_i E F n m p md a _ hm hp hmd HD HS bi hf hi k _ D1 D2 HC HT q1 s1 s2 q2 q3 q4 q5 w hT hN
  ·rw [cmp_eq.2 c] at q4
   cases hfi with
   | e bi fl er h hf=>exact there_eq_e E F n m p md a _ hm hp hmd HD HS bi fl er h hf k _ D1 D2 HC HT q1 s1 s2 q2 q3 q4 w hT hN
   | f bi fl h hf=>exact there_eq_f E F n m p md a _ hm hp hmd HD HS bi fl h hf k _ D1 D2 HC HT q1 s1 s2 q2 q3 q4 w hT hN
   | i bi hf hi=>exact there_eq_i E F n m p md a _ hm hp hmd HD HS bi hf hi k _ D1 D2 HC HT q1 s1 s2 q2 q3 q4 w hT hN
  ·rw [cmp_gt.2 c] at q4
   have q5:(FloatKind.f64.format.order a 0 == some .lt) = true:=by rw [ord64 hx nv_0,cmp_b_lt,decide_eq_true (by omega)]
   cases hfi with
   | e bi fl er h hf=>exact there_gt_e E F n m p md a _ hm hp hmd HD HS bi fl er h hf k _ D1 D2 HC HT q1 s1 s2 q2 q3 q4 q5 w hT hN
   | f bi fl h hf=>exact there_gt_f E F n m p md a _ hm hp hmd HD HS bi fl h hf k _ D1 D2 HC HT q1 s1 s2 q2 q3 q4 q5 w hT hN
   | i bi hf hi=>exact there_gt_i E F n m p md a _ hm hp hmd HD HS bi hf hi k _ D1 D2 HC HT q1 s1 s2 q2 q3 q4 q5 w hT hN
 ·obtain ⟨t1,u1,v1,r1,_,_⟩:=nv_m63
  obtain ⟨t2,u2,v2,r2,_,_⟩:=nv_63
  obtain ⟨t3,u3,v3,r3,_,_⟩:=nv_64
  have o1:FloatKind.f64.format.order 14114281232179134464 a = some (if s then .gt else .lt):=by show double.order _ _ = _; rw [Format.order,r1,hr]; rfl
  have o2:FloatKind.f64.format.order 4890909195324358656 a = some (if s then .gt else .lt):=by show double.order _ _ = _; rw [Format.order,r2,hr]; rfl
  have o3:FloatKind.f64.format.order a 14114281232179134464 = some (if s then .lt else .gt):=by show double.order _ _ = _; rw [Format.order,r1,hr]; rfl
  have o4:FloatKind.f64.format.order a 4890909195324358656 = some (if s then .lt else .gt):=by show double.order _ _ = _; rw [Format.order,r2,hr]; rfl
  have o5:FloatKind.f64.format.order a 4895412794951729152 = some (if s then .lt else .gt):=by show double.order _ _ = _; rw [Format.order,r3,hr]; rfl
  cases s
  ·exact out true false (fun W=>CutI_hi a true false true false (by rw [o1]; rfl) (by rw [o1]; rfl) rfl (by rw [o4]; rfl) (by rw [o2]; rfl) (by rw [o2]; rfl) rfl (by rw [o5]; rfl) W) (by rw [o3]; rfl) (by rw [o4]; rfl) (Or.inr rfl)
  ·exact out false true (fun W=>CutI_lo a false false false false (by rw [o1]; rfl) (by rw [o1]; rfl) rfl (by rw [o2]; rfl) (by rw [o2]; rfl) rfl W) (by rw [o3]; rfl) (by rw [o4]; rfl) (Or.inl rfl)
 ·obtain ⟨t1,u1,v1,r1,_,_⟩:=nv_m63
  obtain ⟨t2,u2,v2,r2,_,_⟩:=nv_63
  have o1:FloatKind.f64.format.order 14114281232179134464 a = none:=by show double.order _ _ = _; rw [Format.order,r1,hr]; rfl
  have o2:FloatKind.f64.format.order 4890909195324358656 a = none:=by show double.order _ _ = _; rw [Format.order,r2,hr]; rfl
  have o3:FloatKind.f64.format.order a 14114281232179134464 = none:=by show double.order _ _ = _; rw [Format.order,r1,hr]; rfl
  have o4:FloatKind.f64.format.order a 4890909195324358656 = none:=by show double.order _ _ = _; rw [Format.order,r2,hr]; rfl
  exact out false false (fun W=>CutI_lo a false false false false (by rw [o1]; rfl) (by rw [o1]; rfl) rfl (by rw [o2]; rfl) (by rw [o2]; rfl) rfl W) (by rw [o3]; rfl) (by rw [o4]; rfl) (Or.inl rfl)
end Go.Proofs.YtbgafednekomhaaGreatDoor
