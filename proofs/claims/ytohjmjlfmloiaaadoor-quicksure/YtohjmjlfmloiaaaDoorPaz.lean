/- Of what QuickSureRow stands on: QkDec QkSurW. -/
import Derived.Test.YtohjmjlfmloiaaaDoorPax
import Derived.Test.YtohjmjlfmloiaaaDoorPay
import Derived.Test.YtohjmjlfmloiaaaDoorPal
import Derived.Test.YtohjmjlfmloiaaaDoorPaw
namespace Go.Proofs.YtohjmjlfmloiaaaDoor
open Go.RowKit Ieee
open Go.RowKit
set_option maxHeartbeats 2000000
set_option maxRecDepth 20000
def p64 (j:Nat):Nat:=[4607182418800017408,4621819117588971520,4636737291354636288,4652007308841189376,4666723172467343360,4681608360884174848,4696837146684686336,4711630319722168320,4726483295884279808,4741671816366391296,4756540486875873280,4771362005757984768,4786511204640096256,4801453603149578240,4816244402031689728,4831355200913801216,4846369599423283200,4861130398305394688,4876203697187506176,4891288408196988160,4906019910204099648,4921056587992461136,4936209963552724370].getD j 0
def p32 (j:Nat):Nat:=[1065353216,1092616192,1120403456,1148846080,1176256512,1203982336,1232348160,1259902592,1287568416,1315859240,1343554297].getD j 0
theorem p64_next:∀ j,j < 22→FloatKind.f64.format.mul (p64 j) 4621819117588971520 = some (p64 (j+1)):=of_decide_eq_true (by kernel_rfl)
theorem p32_next:∀ j,j < 10→FloatKind.f32.format.mul (p32 j) 1092616192 = some (p32 (j+1)):=of_decide_eq_true (by kernel_rfl)
theorem qp64 (m:Nat) (hm:m≤22) (W:World):Calls Tryd.prog 29 #[.int .i64 (m:Int)] W fun e W'=>e = .returned (.float .f64 (p64 m))∧Below W.heap.size W W':=
 qpow64 W m p64 hm (by kernel_rfl) fun j hj=>p64_next j (by omega)
theorem qp32 (m:Nat) (hm:m≤10) (W:World):Calls Tryd.prog 31 #[.int .i64 (m:Int)] W fun e W'=>e = .returned (.float .f32 (p32 m))∧Below W.heap.size W W':=
 qpow32 W m p32 (by omega) (by kernel_rfl) fun j hj=>p32_next j (by omega)
def isN (k:FloatKind) (b:Nat):Bool:=match k.format.read b with
 | .number _ m _=>m != 0
 | _=>false
theorem p64_num:∀ j,j < 23→isN .f64 (p64 j) = true:=of_decide_eq_true (by kernel_rfl)
theorem p32_num:∀ j,j < 11→isN .f32 (p32 j) = true:=of_decide_eq_true (by kernel_rfl)
theorem isN_some {k:FloatKind} {b:Nat} (h:isN k b = true):∃ s m i,k.format.read b = .number s m i∧m≠0:=by
 unfold isN at h
 split at h
 ·rename_i s m i e; exact ⟨s,m,i,e,by simpa using h⟩
 ·cases h
theorem near_plain (f:Format) (s:Bool) (m:Nat) (i:Int):∀ t u,f.read (f.nearest s m i)≠.nan t u:=by
 have hl:=f.infRung_lt
 have key:∀ r,r≤f.infRung→∀ t u,f.read (f.word s r)≠.nan t u:=fun r hr t u=>by
  have hw:f.word s r % f.signWeight = r:=by
   unfold Format.word
   split
   ·rw [Nat.add_mod_left,Nat.mod_eq_of_lt (by omega)]
   ·exact Nat.mod_eq_of_lt (by omega)
  unfold Format.read
  simp only [hw]
  split
  ·simp
  ·split
   ·simp
   ·rw [if_pos (by omega)]; simp
 unfold Format.nearest
 split
 ·exact key 0 (Nat.zero_le _)
 ·exact key _ (Nat.min_le_right _ _)
theorem mul_has {f:Format} {x y:Nat} {s:Bool} {m:Nat} {i:Int} (hx:∀ t u,f.read x≠.nan t u) (hy:f.read y = .number s m i) (hm:m≠0):∃ z,f.mul x y = some z:=by
 unfold Format.mul
 rw [hy]
 rcases h:f.read x with ⟨t,n,j⟩|t|⟨t,u⟩
 ·exact ⟨_,rfl⟩
 ·refine ⟨f.write (.infinity (t ^^ s)),?_⟩
  show ((if m = 0 then none else some (Datum.infinity (t ^^ s))).map f.write) = _
  rw [if_neg hm]; rfl
 ·exact absurd h (hx t u)
theorem div_has {f:Format} {x y:Nat} {s:Bool} {m:Nat} {i:Int} (hx:∀ t u,f.read x≠.nan t u) (hy:f.read y = .number s m i) (hm:m≠0):∃ z,f.div x y = some z:=by
 unfold Format.div
 rw [hy]
 rcases h:f.read x with ⟨t,n,j⟩|t|⟨t,u⟩
 ·simp only [Datum.quotient]
  rw [if_neg hm]
  exact ⟨_,rfl⟩
 ·exact ⟨_,rfl⟩
 ·exact absurd h (hx t u)
theorem qnum_val (s:ByteArray) (hl:s.size≤19) (hd:AllD s s.size) (W:World):Calls Tryd.prog 22 #[.string s] W fun e W'=>e = .returned (.tuple #[.int .u64 (valS s:Int),.bool true])∧Below W.heap.size W W':=by
 obtain ⟨h1,h2,h3⟩:=hd.digS
 have h:=qnum_ok W s (fun j=>48+(digs s)[j]?.getD 0) (fun j=>Pl.dval ((digs s).take j) 0) hl (fun j hj=>h3 j hj) (fun j hj=>by
  have:=h3 j hj; have:=hd j hj hj; omega) (by simp [Pl.dval]) (fun j hj=>by
  have:=dval_snoc (digs s) j (by omega); rw [this]; omega) (fun j hj=>by
  have:=dval_take_lt h2 j (by omega)
  have:(10:Nat) ^ j≤10 ^ 19:=Nat.pow_le_pow_right (by omega) (by omega)
  have:(10:Nat) ^ 19 < 18446744073709551616:=by decide
  omega)
 have e:(digs s).take (s.size - 0) = digs s:=List.take_of_length_le (by omega)
 rw [e] at h
 exact h
theorem ddig_q {s:ByteArray} (hm:s.size≤65536) (hd:AllD s s.size) (W:World):Calls Tryd.prog 13 #[.string s] W fun e W'=>e = .returned (.bool true)∧Below W.heap.size W W':=
 (allDigits_any s W hm).mono fun e W' ⟨h,hb⟩=>⟨by
  rcases h with ⟨h,_⟩|⟨_,h⟩
  ·exact h
  ·exact absurd hd h,hb⟩
theorem qchk (g:Bool) (s:ByteArray) (x:Int) (hm:s.size≤65536) (h0:s.size≠0) (hd:AllD s s.size) (ha:∀ h:0 < s.size,(s[0]'h).toNat≠48) (hb:∀ k,(h:k+1 = s.size)→(s[k]'(by omega)).toNat≠48) (hx0:-1073741824≤x) (hx1:x≤1073741824) (W:World) :
  Calls Tryd.prog 32 #[.agg #[.bool g,.string s,.int .i64 x]] W fun en W'=>en = .returned (.int .i64 0)∧Below W.heap.size W W':=by
 obtain ⟨f,t,hE,_,hc⟩:=ends_fix s hm
 have hf:f = 0:=by
  by_cases h:f = 0
  ·exact h
  ·exact absurd (hE.lo 0 (by omega) (by omega)) (ha _)
 have ht:s.size≤t:=by
  by_cases h:s.size≤t
  ·exact h
  ·exact absurd (hE.up (s.size - 1) (by omega) (by omega)) (hb (s.size - 1) (by omega))
 exact dck_ok W g s x f t hm h0 (hide hc) hf ht (hide (ddig_q hm hd)) (hide fun W=>bey_in W x hx0 hx1)
structure Qd (s:ByteArray) (x:Int) (n:Nat):Prop where
 sz:s.size≤19
 ok:AllD s s.size
 val:valS s = n
 chk:∀ (g:Bool) (W:World),Calls Tryd.prog 32 #[.agg #[.bool g,.string s,.int .i64 x]] W fun en W'=>en = .returned (.int .i64 0)∧Below W.heap.size W W'
theorem says_qd {t:ByteArray} {n:Nat} {y:Int} (h:Says t n) (h10:n % 10≠0) (hn:n < 10 ^ 19) (h1:-1073741824≤y) (h2:y≤1073741824):Qd t y n:=by
 obtain ⟨ds,hc,hD,hL,hv⟩:=h
 have ht:t = ⟨(chars ds).toArray⟩:=by
  cases t with
  | mk d=>cases d with
   | mk l=>rw [show l = chars ds from hc]
 have hA:AllD t t.size:=by rw [ht]; exact all_chars hD
 have hg:digs t = ds:=by rw [ht]; exact digs_chars hD
 have hvt:valS t = n:=by unfold valS; rw [hg,hv]
 have hs:t.size = ds.length:=by rw [← hg]; simp [digs]
 have hl:t.size≤19:=by rw [hs]; exact lead_len hL (by rw [hv]; exact hn) (by omega)
 obtain ⟨l1,l2⟩:=hL
 have h0:0 < t.size:=by
  rw [hs]; exact List.length_pos_iff.2 l1
 have hat:=hA.digS.2.2
 rw [hg] at hat
 have hlast:∀ k,(h:k+1 = t.size)→(t[k]'(by omega)).toNat≠48:=fun k hk=>by
  have e:=dval_snoc ds k (by omega)
  rw [List.take_of_length_le (by omega),hv] at e
  have:=hat k (by omega)
  omega
 refine ⟨hl,hA,hvt,fun g W=>qchk g t y (by omega) (by omega) hA (fun hh=>?_) hlast h1 h2 W⟩
 rcases l2 with l2|l2
 ·have:=hat 0 hh
  omega
 ·exact hlast 0 (by omega)
theorem zero_qd:Qd ⟨#[]⟩ 0 0:=⟨by decide,fun j hj=>absurd hj (Nat.not_lt_zero _),rfl,fun g W=>dck_z0 W g _ 0 (by decide) rfl rfl⟩
theorem make_qd (g:Bool) (u:ByteArray) (x:Int) (N:Nat) (hx0:-1000≤x) (hx1:x≤1000) (hm:u.size≤1000) (hd:AllD u u.size) (hN:valS u = N) (hN1:N < 10 ^ 19) :
  ∃ (s:ByteArray) (y:Int) (n:Nat),Qd s y n∧n≤N∧(y = 0∨x≤y)∧∀ W:World,Calls Tryd.prog 5 #[.bool g,.string u,.int .i64 x] W fun e W'=>e = .returned (.tuple #[.agg #[.bool g,.string s,.int .i64 y],.int .i64 0])∧Below W.heap.size W W':=by
 obtain ⟨V,hV,hc⟩:=dmake_c g u x (by omega) (by omega) (by omega) hd
 rw [hN] at hV
 rcases hV with ⟨h0,rfl⟩|⟨t,n,z,h1,h10,hS,h⟩
 ·exact ⟨_,_,0,zero_qd,by omega,Or.inl rfl,hc⟩
 ·have hp:1≤10 ^ z:=Nat.pow_pos (by omega)
  have hnN:n≤N:=by rw [h1]; exact Nat.le_mul_of_pos_right _ hp
  have hz:z≤19:=by
   rcases Nat.lt_or_ge 19 z with q|q
   ·have a1:10 ^ 19≤10 ^ z:=Nat.pow_le_pow_right (by omega) (by omega)
    have a2:1 * 10 ^ z≤n * 10 ^ z:=Nat.mul_le_mul_right _ (by omega)
    omega
   ·exact q
  rcases h with ⟨h,_⟩|⟨_,rfl⟩
  ·omega
  ·exact ⟨t,_,n,says_qd hS h10 (by omega) (by omega) (by omega),hnN,Or.inr (by omega),hc⟩
def fl64 (n:Nat) (x:Int):Option Nat:=if x < 0 then FloatKind.f64.format.div (floatOfInt .f64 (n:Int)) (p64 x.natAbs) else FloatKind.f64.format.mul (floatOfInt .f64 (n:Int)) (p64 x.natAbs)
def fl32 (n:Nat) (x:Int):Option Nat:=if x < 0 then FloatKind.f32.format.div (floatOfInt .f32 (n:Int)) (p32 x.natAbs) else FloatKind.f32.format.mul (floatOfInt .f32 (n:Int)) (p32 x.natAbs)
theorem fl64_has (n:Nat) (x:Int) (h0:-22≤x) (h1:x≤22):∃ z,fl64 n x = some z:=by
 obtain ⟨s,m,i,e,hm⟩:=isN_some (p64_num x.natAbs (by omega))
 unfold fl64
 split
 ·exact div_has (near_plain _ _ _ _) e hm
 ·exact mul_has (near_plain _ _ _ _) e hm
theorem fl32_has (n:Nat) (x:Int) (h0:-10≤x) (h1:x≤10):∃ z,fl32 n x = some z:=by
 obtain ⟨s,m,i,e,hm⟩:=isN_some (p32_num x.natAbs (by omega))
 unfold fl32
 split
 ·exact div_has (near_plain _ _ _ _) e hm
 ·exact mul_has (near_plain _ _ _ _) e hm
theorem fac64 {s:ByteArray} {x:Int} {n:Nat} (h:Qd s x n) (hn:n≤9007199254740992) (h0:-22≤x) (h1:x≤22) (g:Bool) (W:World):Calls Tryd.prog 21 #[.agg #[.int .u64 9007199254740992,.int .i64 22],.agg #[.bool g,.string s,.int .i64 x]] W fun e W'=>e = .returned (.tuple #[.int .u64 (n:Int),.int .i64 x,.bool true])∧Below W.heap.size W W':=by
 have hv:=h.val
 subst hv
 exact qfac_s W 9007199254740992 22 g s x (valS s) (valS s) true (by omega) h0 h1 (hide (h.chk g)) (hide (qnum_val s h.sz h.ok)) (hide fun W=>qrai_0t W 9007199254740992 22 (valS s) hn)
theorem dbl64 {s:ByteArray} {x:Int} {n z:Nat} (h:Qd s x n) (hn:n≤9007199254740992) (h0:-22≤x) (h1:x≤22) (hz:fl64 n x = some z) (g:Bool) (W:World):Calls Tryd.prog 7 #[.agg #[.bool g,.string s,.int .i64 x]] W fun e W'=>e = .returned (.tuple #[.float .f64 (if g then Op.negFloat .f64 z else z),.bool true])∧Below W.heap.size W W':=by
 refine qdouble W g s x _ true (hide fun W=>?_)
 have hf:=fac64 h hn h0 h1 g
 unfold fl64 at hz
 rcases Int.lt_or_le x 0 with hx|hx
 ·rw [if_pos hx] at hz
  obtain ⟨m,rfl⟩:∃ m:Nat,x = -(m:Int):=⟨x.natAbs,by omega⟩
  have e:(-(m:Int)).natAbs = m:=by omega
  rw [e] at hz
  cases g
  ·exact qnst64_qf W s _ n m (p64 m) z (by omega) (hide hf) (hide (qp64 m (by omega))) hz
  ·exact qnst64_qt W s _ n m (p64 m) z (by omega) (hide hf) (hide (qp64 m (by omega))) hz
 ·rw [if_neg (by omega)] at hz
  obtain ⟨m,rfl⟩:∃ m:Nat,x = (m:Int):=⟨x.natAbs,by omega⟩
  have e:((m:Int)).natAbs = m:=by omega
  rw [e] at hz
  cases g
  ·exact qnst64_pf W s _ n m (p64 m) z (by omega) (hide hf) (hide (qp64 m (by omega))) hz
  ·exact qnst64_pt W s _ n m (p64 m) z (by omega) (hide hf) (hide (qp64 m (by omega))) hz
theorem fac32 {s:ByteArray} {x:Int} {n:Nat} (h:Qd s x n) (hn:n≤16777216) (h0:-10≤x) (h1:x≤10) (g:Bool) (W:World):Calls Tryd.prog 21 #[.agg #[.int .u64 16777216,.int .i64 10],.agg #[.bool g,.string s,.int .i64 x]] W fun e W'=>e = .returned (.tuple #[.int .u64 (n:Int),.int .i64 x,.bool true])∧Below W.heap.size W W':=by
 have hv:=h.val
 subst hv
 exact qfac_s W 16777216 10 g s x (valS s) (valS s) true (by omega) h0 h1 (hide (h.chk g)) (hide (qnum_val s h.sz h.ok)) (hide fun W=>qrai_0t W 16777216 10 (valS s) hn)
theorem dbl32 {s:ByteArray} {x:Int} {n z:Nat} (h:Qd s x n) (hn:n≤16777216) (h0:-10≤x) (h1:x≤10) (hz:fl32 n x = some z) (g:Bool) (W:World):Calls Tryd.prog 8 #[.agg #[.bool g,.string s,.int .i64 x]] W fun e W'=>e = .returned (.tuple #[.float .f32 (if g then Op.negFloat .f32 z else z),.bool true])∧Below W.heap.size W W':=by
 refine qsingle W g s x _ true (hide fun W=>?_)
 have hf:=fac32 h hn h0 h1 g
 unfold fl32 at hz
 rcases Int.lt_or_le x 0 with hx|hx
 ·rw [if_pos hx] at hz
  obtain ⟨m,rfl⟩:∃ m:Nat,x = -(m:Int):=⟨x.natAbs,by omega⟩
  have e:(-(m:Int)).natAbs = m:=by omega
  rw [e] at hz
  cases g
  ·exact qnst32_qf W s _ n m (p32 m) z (by omega) (hide hf) (hide (qp32 m (by omega))) hz
  ·exact qnst32_qt W s _ n m (p32 m) z (by omega) (hide hf) (hide (qp32 m (by omega))) hz
 ·rw [if_neg (by omega)] at hz
  obtain ⟨m,rfl⟩:∃ m:Nat,x = (m:Int):=⟨x.natAbs,by omega⟩
  have e:((m:Int)).natAbs = m:=by omega
  rw [e] at hz
  cases g
  ·exact qnst32_pf W s _ n m (p32 m) z (by omega) (hide hf) (hide (qp32 m (by omega))) hz
  ·exact qnst32_pt W s _ n m (p32 m) z (by omega) (hide hf) (hide (qp32 m (by omega))) hz
theorem fits_in {s:ByteArray} {x:Int} {n:Nat} (h:Qd s x n) (hn:n≤9007199254740992) (h0:-22≤x) (h1:x≤22) (g:Bool) (W:World):Calls Tryd.prog 11 #[.agg #[.bool g,.string s,.int .i64 x]] W fun e W'=>e = .returned (.bool true)∧Below W.heap.size W W':=
 qfits W g s x _ _ true (hide (fac64 h hn h0 h1 g))
theorem qs_far1 (w:World) (n:Nat) (xp:Int) (g:Bool) (m k:Nat) (a b:Int) (t1 t2 s1 s2:ByteArray) (x1 x2:Int) (ht:Tpw w) (hm:Int.tmod (n:Int) 9007199254740993 = (m:Int)) (hk:Int.tmod (n:Int) 16777217 = (k:Int)) (ha:Int.tmod xp 23 = a) (hb:Int.tmod xp 11 = b) (H0:Hid (∀ W:World,Calls Tryd.prog 4 #[] W fun e W'=>e = .returned (.bool true)∧Below W.heap.size W W')) (HF1:Hid (∀ W:World,Tpw W→Calls Tryd.prog 6 #[.int .u64 (m:Int),.int .i64 10] W fun e W'=>e = .returned (.string t1)∧Below W.heap.size W W')) (HF2:Hid (∀ W:World,Tpw W→Calls Tryd.prog 6 #[.int .u64 (k:Int),.int .i64 10] W fun e W'=>e = .returned (.string t2)∧Below W.heap.size W W')) (HM1:Hid (∀ W:World,Calls Tryd.prog 5 #[.bool g,.string t1,.int .i64 a] W fun e W'=>e = .returned (.tuple #[.agg #[.bool g,.string s1,.int .i64 x1],.int .i64 0])∧Below W.heap.size W W')) (HM2:Hid (∀ W:World,Calls Tryd.prog 5 #[.bool g,.string t2,.int .i64 b] W fun e W'=>e = .returned (.tuple #[.agg #[.bool g,.string s2,.int .i64 x2],.int .i64 0])∧Below W.heap.size W W')) (h1:22 < x1) :
  Calls Tryd.prog 3 #[.int .u64 (n:Int),.int .i64 xp,.bool g] w fun en w'=>en = .returned (.bool true)∧Below w.heap.size w w':=by
 refine calls_sym Tryd.func3 rfl (by kernel_rfl) fun T hK=>?_
 replace hK:Kn T _ [(0,.int .u64 (n:Int)),(1,.int .i64 xp),(2,.bool g)]:=hK
 have hS:=Fb.begin w
 have hG:GsAt [] w:=trivial
 refine wp_symQ hS hG hK (fun p1=>[.v 6 (.bool false)]) (fun p1=>[(0,.int .u64 (n:Int)),(1,.int .i64 xp),(2,.bool g),(6,.bool false)]) (by kernel_rfl) (fun _ _=>by kernel_rfl) (fun _=>by kernel_rfl) (fun _=>by kernel_rfl) (fun p1=>?_) (fun p1 W1 T hF hK=>?_)
 ·refine ok_v (by kernel_rfl) ?_
  exact ok_nil
 replace hS:=SymF.fb hS hF [] [] (by kernel_rfl) (by kernel_rfl)
 replace hG:=hF.gx
 clear hF
 have z1:=hS.fr.size
 refine wp_symQ hS hG hK (fun p2=>[.c (some 24) (cV (.bool true)),.v 7 (.bool true)]) (fun p2=>[(0,.int .u64 (n:Int)),(1,.int .i64 xp),(2,.bool g),(6,.bool false),(7,.bool true)]) (by kernel_rfl) (fun _ _=>by kernel_rfl) (fun _=>by kernel_rfl) (fun _=>by kernel_rfl) (fun p2=>?_) (fun p2 W2 T hF hK=>?_)
 ·refine ok_c (fun W cx=>as_v (unhide H0 _)) (by kernel_rfl) ?_
  refine ok_v (by kernel_rfl) ?_
  exact ok_nil
 replace hS:=SymF.fb hS hF [] [] (by kernel_rfl) (by kernel_rfl)
 replace hG:=hF.gx
 clear hF
 have z2:=hS.fr.size
 refine wp_symQ hS hG hK (fun p3=>[.v 25 (.int .u64 (n:Int)),.v 26 (.int .u64 (m:Int)),.v 8 (.int .u64 (m:Int))]) (fun p3=>[(0,.int .u64 (n:Int)),(1,.int .i64 xp),(2,.bool g),(6,.bool false),(7,.bool true),(8,.int .u64 (m:Int))]) (by kernel_rfl) (fun _ _=>by kernel_rfl) (fun _=>by kernel_rfl) (fun _=>by kernel_rfl) (fun p3=>?_) (fun p3 W3 T hF hK=>?_)
 ·refine ok_v (by kernel_rfl) ?_
  refine ok_vi (hm) (by kernel_rfl) ?_
  refine ok_v (by kernel_rfl) ?_
  exact ok_nil
 replace hS:=SymF.fb hS hF [] [] (by kernel_rfl) (by kernel_rfl)
 replace hG:=hF.gx
 clear hF
 have z3:=hS.fr.size
 refine wp_symQ hS hG hK (fun p4=>[.v 27 (.int .u64 (n:Int)),.v 28 (.int .u64 (k:Int)),.v 9 (.int .u64 (k:Int))]) (fun p4=>[(1,.int .i64 xp),(2,.bool g),(6,.bool false),(7,.bool true),(8,.int .u64 (m:Int)),(9,.int .u64 (k:Int))]) (by kernel_rfl) (fun _ _=>by kernel_rfl) (fun _=>by kernel_rfl) (fun _=>by kernel_rfl) (fun p4=>?_) (fun p4 W4 T hF hK=>?_)
 ·refine ok_v (by kernel_rfl) ?_
  refine ok_vi (hk) (by kernel_rfl) ?_
  refine ok_v (by kernel_rfl) ?_
  exact ok_nil
 replace hS:=SymF.fb hS hF [] [] (by kernel_rfl) (by kernel_rfl)
 replace hG:=hF.gx
 clear hF
 have z4:=hS.fr.size
 refine wp_symQ hS hG hK (fun p5=>[.v 29 (.int .i64 xp),.v 30 (.int .i64 a),.v 10 (.int .i64 a)]) (fun p5=>[(1,.int .i64 xp),(2,.bool g),(6,.bool false),(7,.bool true),(8,.int .u64 (m:Int)),(9,.int .u64 (k:Int)),(10,.int .i64 a)]) (by kernel_rfl) (fun _ _=>by kernel_rfl) (fun _=>by kernel_rfl) (fun _=>by kernel_rfl) (fun p5=>?_) (fun p5 W5 T hF hK=>?_)
 ·refine ok_v (by kernel_rfl) ?_
  refine ok_vi (ha) (by kernel_rfl) ?_
  refine ok_v (by kernel_rfl) ?_
  exact ok_nil
 replace hS:=SymF.fb hS hF [] [] (by kernel_rfl) (by kernel_rfl)
 replace hG:=hF.gx
 clear hF
 have z5:=hS.fr.size
 refine wp_symQ hS hG hK (fun p6=>[.v 31 (.int .i64 xp),.v 32 (.int .i64 b),.v 11 (.int .i64 b)]) (fun p6=>[(2,.bool g),(6,.bool false),(7,.bool true),(8,.int .u64 (m:Int)),(9,.int .u64 (k:Int)),(10,.int .i64 a),(11,.int .i64 b)]) (by kernel_rfl) (fun _ _=>by kernel_rfl) (fun _=>by kernel_rfl) (fun _=>by kernel_rfl) (fun p6=>?_) (fun p6 W6 T hF hK=>?_)
 ·refine ok_v (by kernel_rfl) ?_
  refine ok_vi (hb) (by kernel_rfl) ?_
  refine ok_v (by kernel_rfl) ?_
  exact ok_nil
 replace hS:=SymF.fb hS hF [] [] (by kernel_rfl) (by kernel_rfl)
 replace hG:=hF.gx
 clear hF
 have z6:=hS.fr.size
 refine wp_symQ hS hG hK (fun p7=>[.v 34 (.bool g),.v 35 (.int .u64 (m:Int)),.c (some 36) (cV (.string t1)),.v 37 (.int .i64 a),.c (some 38) (cV (.tuple #[.agg #[.bool g,.string s1,.int .i64 x1],.int .i64 0])),.v 33 (.tuple #[.agg #[.bool g,.string s1,.int .i64 x1],.int .i64 0]),.v 39 (.agg #[.bool g,.string s1,.int .i64 x1]),.v 40 (.int .i64 0),.n 12 #[.bool false,.string ⟨#[]⟩,.int .i64 0] 25,.p 1008 0 [.bool g,.string s1,.int .i64 x1],.v 13 (.int .i64 0)]) (fun p7=>[(2,.bool g),(6,.bool false),(7,.bool true),(9,.int .u64 (k:Int)),(11,.int .i64 b),(12,.pointer (some ⟨(p7 8).N,0,none⟩)),(13,.int .i64 0)]) (by kernel_rfl) (fun _ _=>by kernel_rfl) (fun _=>by kernel_rfl) (fun _=>by kernel_rfl) (fun p7=>?_) (fun p7 W7 T hF hK=>?_)
 ·iterate 2 refine ok_v (by kernel_rfl) ?_
  refine ok_c (fun W cx=>as_v (unhide HF1 _ (ht.kept cx.fr))) (by kernel_rfl) ?_
  refine ok_v (by kernel_rfl) ?_
  refine ok_c (fun W cx=>as_v (unhide HM1 _)) (by kernel_rfl) ?_
  iterate 3 refine ok_v (by kernel_rfl) ?_
  refine ok_n (fun _=>by kernel_rfl) ?_
  refine ok_P (by kernel_rfl) (by kernel_rfl) (by kernel_rfl) ?_
  refine ok_v (by kernel_rfl) ?_
  exact ok_nil
 replace hS:=SymF.fb hS hF [1008] [⟨(p7 8).N,#[.bool g,.string s1,.int .i64 x1],25,true⟩] (by kernel_rfl) (by kernel_rfl)
 replace hG:=hF.gx
 clear hF
 have z7:=hS.fr.size
 refine wp_symQ hS hG hK (fun p8=>[.v 42 (.bool g),.v 43 (.int .u64 (k:Int)),.c (some 44) (cV (.string t2)),.v 45 (.int .i64 b),.c (some 46) (cV (.tuple #[.agg #[.bool g,.string s2,.int .i64 x2],.int .i64 0])),.v 41 (.tuple #[.agg #[.bool g,.string s2,.int .i64 x2],.int .i64 0]),.v 47 (.agg #[.bool g,.string s2,.int .i64 x2]),.v 48 (.int .i64 0),.n 14 #[.bool false,.string ⟨#[]⟩,.int .i64 0] 25,.p 1008 0 [.bool g,.string s2,.int .i64 x2],.v 15 (.int .i64 0)]) (fun p8=>[(6,.bool false),(7,.bool true),(12,.pointer (some ⟨(p7 8).N,0,none⟩)),(13,.int .i64 0),(14,.pointer (some ⟨(p8 8).N,0,none⟩)),(15,.int .i64 0)]) (by kernel_rfl) (fun _ _=>by kernel_rfl) (fun _=>by kernel_rfl) (fun _=>by kernel_rfl) (fun p8=>?_) (fun p8 W8 T hF hK=>?_)
 ·iterate 2 refine ok_v (by kernel_rfl) ?_
  refine ok_c (fun W cx=>as_v (unhide HF2 _ (ht.kept cx.fr))) (by kernel_rfl) ?_
  refine ok_v (by kernel_rfl) ?_
  refine ok_c (fun W cx=>as_v (unhide HM2 _)) (by kernel_rfl) ?_
  iterate 3 refine ok_v (by kernel_rfl) ?_
  refine ok_n (fun _=>by kernel_rfl) ?_
  refine ok_P (by kernel_rfl) (by kernel_rfl) (by kernel_rfl) ?_
  refine ok_v (by kernel_rfl) ?_
  exact ok_nil
 replace hS:=SymF.fb hS hF [0,1008] [⟨(p7 8).N,#[.bool g,.string s1,.int .i64 x1],25,true⟩,⟨(p8 8).N,#[.bool g,.string s2,.int .i64 x2],25,true⟩] (by kernel_rfl) (by kernel_rfl)
 replace hG:=hF.gx
 clear hF
 have z8:=hS.fr.size
 refine wp_seq ?_
 refine wp_symQ hS hG hK (fun p9=>[.v 49 (.bool true),.v 50 (.bool false),.v 51 (.bool false),.v 52 (.int .i64 0),.v 53 (.bool false),.v 54 (.bool false),.v 55 (.bool false),.v 56 (.int .i64 0),.v 57 (.bool false),.v 58 (.bool false)]) (fun p9=>[(6,.bool false),(12,.pointer (some ⟨(p7 8).N,0,none⟩)),(14,.pointer (some ⟨(p8 8).N,0,none⟩)),(58,.bool false)]) (by kernel_rfl) (fun _ _=>by kernel_rfl) (fun _=>by kernel_rfl) (fun _=>by kernel_rfl) (fun p9=>?_) (fun p9 W9 T hF hK=>?_)
 ·iterate 10 refine ok_v (by kernel_rfl) ?_
  exact ok_nil
 replace hS:=SymF.fb hS hF [0,1] [⟨(p7 8).N,#[.bool g,.string s1,.int .i64 x1],25,true⟩,⟨(p8 8).N,#[.bool g,.string s2,.int .i64 x2],25,true⟩] (by kernel_rfl) (by kernel_rfl)
 replace hG:=hF.gx
 clear hF
 have z9:=hS.fr.size
 refine wp_cond_false (hK.ev 58 (by kernel_rfl) _ (by kernel_rfl)) ?_
 refine wp_skip ?_
 refine then_n ?_
 refine wp_seq ?_
 refine wp_symQ hS hG hK (fun p10=>[.v 59 (.pointer (some ⟨(p7 8).N,2,none⟩)),.l 60 (.int .i64 x1) 0 2,.v 61 (.bool true),.v 62 (.bool true),.k (some 63),.k (some 64),.k (some 65),.v 66 (.bool true)]) (fun p10=>[(6,.bool false),(12,.pointer (some ⟨(p7 8).N,0,none⟩)),(14,.pointer (some ⟨(p8 8).N,0,none⟩)),(58,.bool false),(66,.bool true)]) (by kernel_rfl) (fun _ _=>by kernel_rfl) (fun _=>by kernel_rfl) (fun _=>by kernel_rfl) (fun p10=>?_) (fun p10 W10 T hF hK=>?_)
 ·refine ok_v (by kernel_rfl) ?_
  refine ok_L (by kernel_rfl) (by kernel_rfl) (by kernel_rfl) ?_
  refine ok_vb (decide_eq_true (show x1 > 22 by omega)) (by kernel_rfl) ?_
  refine ok_v (by kernel_rfl) ?_
  iterate 3 refine ok_K (by kernel_rfl) ?_
  refine ok_v (by kernel_rfl) ?_
  exact ok_nil
 replace hS:=SymF.fb hS hF [0,1] [⟨(p7 8).N,#[.bool g,.string s1,.int .i64 x1],25,true⟩,⟨(p8 8).N,#[.bool g,.string s2,.int .i64 x2],25,true⟩] (by kernel_rfl) (by kernel_rfl)
 replace hG:=hF.gx
 clear hF
 have z10:=hS.fr.size
 refine wp_cond_true (hK.ev 66 (by kernel_rfl) _ (by kernel_rfl)) ?_
 refine wp_symQ hS hG hK (fun p11=>[.v 6 (.bool true)]) (fun p11=>[(6,.bool true),(12,.pointer (some ⟨(p7 8).N,0,none⟩)),(14,.pointer (some ⟨(p8 8).N,0,none⟩)),(58,.bool false),(66,.bool true)]) (by kernel_rfl) (fun _ _=>by kernel_rfl) (fun _=>by kernel_rfl) (fun _=>by kernel_rfl) (fun p11=>?_) (fun p11 W11 T hF hK=>?_)
 ·refine ok_v (by kernel_rfl) ?_
  exact ok_nil
 replace hS:=SymF.fb hS hF [0,1] [⟨(p7 8).N,#[.bool g,.string s1,.int .i64 x1],25,true⟩,⟨(p8 8).N,#[.bool g,.string s2,.int .i64 x2],25,true⟩] (by kernel_rfl) (by kernel_rfl)
 replace hG:=hF.gx
 clear hF
 have z11:=hS.fr.size
 refine wp_ret ?_
 refine then_r ?_
 exact sym_end hS hK (.bool true) [] [] (by kernel_rfl) (by kernel_rfl) ⟨rfl,hS.fr⟩
theorem qs_far2 (w:World) (n:Nat) (xp:Int) (g:Bool) (m k:Nat) (a b:Int) (t1 t2 s1 s2:ByteArray) (x1 x2:Int) (ht:Tpw w) (hm:Int.tmod (n:Int) 9007199254740993 = (m:Int)) (hk:Int.tmod (n:Int) 16777217 = (k:Int)) (ha:Int.tmod xp 23 = a) (hb:Int.tmod xp 11 = b) (H0:Hid (∀ W:World,Calls Tryd.prog 4 #[] W fun e W'=>e = .returned (.bool true)∧Below W.heap.size W W')) (HF1:Hid (∀ W:World,Tpw W→Calls Tryd.prog 6 #[.int .u64 (m:Int),.int .i64 10] W fun e W'=>e = .returned (.string t1)∧Below W.heap.size W W')) (HF2:Hid (∀ W:World,Tpw W→Calls Tryd.prog 6 #[.int .u64 (k:Int),.int .i64 10] W fun e W'=>e = .returned (.string t2)∧Below W.heap.size W W')) (HM1:Hid (∀ W:World,Calls Tryd.prog 5 #[.bool g,.string t1,.int .i64 a] W fun e W'=>e = .returned (.tuple #[.agg #[.bool g,.string s1,.int .i64 x1],.int .i64 0])∧Below W.heap.size W W')) (HM2:Hid (∀ W:World,Calls Tryd.prog 5 #[.bool g,.string t2,.int .i64 b] W fun e W'=>e = .returned (.tuple #[.agg #[.bool g,.string s2,.int .i64 x2],.int .i64 0])∧Below W.heap.size W W')) (h1:x1≤22) (h2:10 < x2) :
  Calls Tryd.prog 3 #[.int .u64 (n:Int),.int .i64 xp,.bool g] w fun en w'=>en = .returned (.bool true)∧Below w.heap.size w w':=by
 refine calls_sym Tryd.func3 rfl (by kernel_rfl) fun T hK=>?_
 replace hK:Kn T _ [(0,.int .u64 (n:Int)),(1,.int .i64 xp),(2,.bool g)]:=hK
 have hS:=Fb.begin w
 have hG:GsAt [] w:=trivial
 refine wp_symQ hS hG hK (fun p1=>[.v 6 (.bool false)]) (fun p1=>[(0,.int .u64 (n:Int)),(1,.int .i64 xp),(2,.bool g),(6,.bool false)]) (by kernel_rfl) (fun _ _=>by kernel_rfl) (fun _=>by kernel_rfl) (fun _=>by kernel_rfl) (fun p1=>?_) (fun p1 W1 T hF hK=>?_)
 ·refine ok_v (by kernel_rfl) ?_
  exact ok_nil
 replace hS:=SymF.fb hS hF [] [] (by kernel_rfl) (by kernel_rfl)
 replace hG:=hF.gx
 clear hF
 have z1:=hS.fr.size
 refine wp_symQ hS hG hK (fun p2=>[.c (some 24) (cV (.bool true)),.v 7 (.bool true)]) (fun p2=>[(0,.int .u64 (n:Int)),(1,.int .i64 xp),(2,.bool g),(6,.bool false),(7,.bool true)]) (by kernel_rfl) (fun _ _=>by kernel_rfl) (fun _=>by kernel_rfl) (fun _=>by kernel_rfl) (fun p2=>?_) (fun p2 W2 T hF hK=>?_)
 ·refine ok_c (fun W cx=>as_v (unhide H0 _)) (by kernel_rfl) ?_
  refine ok_v (by kernel_rfl) ?_
  exact ok_nil
 replace hS:=SymF.fb hS hF [] [] (by kernel_rfl) (by kernel_rfl)
 replace hG:=hF.gx
 clear hF
 have z2:=hS.fr.size
 refine wp_symQ hS hG hK (fun p3=>[.v 25 (.int .u64 (n:Int)),.v 26 (.int .u64 (m:Int)),.v 8 (.int .u64 (m:Int))]) (fun p3=>[(0,.int .u64 (n:Int)),(1,.int .i64 xp),(2,.bool g),(6,.bool false),(7,.bool true),(8,.int .u64 (m:Int))]) (by kernel_rfl) (fun _ _=>by kernel_rfl) (fun _=>by kernel_rfl) (fun _=>by kernel_rfl) (fun p3=>?_) (fun p3 W3 T hF hK=>?_)
 ·refine ok_v (by kernel_rfl) ?_
  refine ok_vi (hm) (by kernel_rfl) ?_
  refine ok_v (by kernel_rfl) ?_
  exact ok_nil
 replace hS:=SymF.fb hS hF [] [] (by kernel_rfl) (by kernel_rfl)
 replace hG:=hF.gx
 clear hF
 have z3:=hS.fr.size
 refine wp_symQ hS hG hK (fun p4=>[.v 27 (.int .u64 (n:Int)),.v 28 (.int .u64 (k:Int)),.v 9 (.int .u64 (k:Int))]) (fun p4=>[(1,.int .i64 xp),(2,.bool g),(6,.bool false),(7,.bool true),(8,.int .u64 (m:Int)),(9,.int .u64 (k:Int))]) (by kernel_rfl) (fun _ _=>by kernel_rfl) (fun _=>by kernel_rfl) (fun _=>by kernel_rfl) (fun p4=>?_) (fun p4 W4 T hF hK=>?_)
 ·refine ok_v (by kernel_rfl) ?_
  refine ok_vi (hk) (by kernel_rfl) ?_
  refine ok_v (by kernel_rfl) ?_
  exact ok_nil
 replace hS:=SymF.fb hS hF [] [] (by kernel_rfl) (by kernel_rfl)
 replace hG:=hF.gx
 clear hF
 have z4:=hS.fr.size
 refine wp_symQ hS hG hK (fun p5=>[.v 29 (.int .i64 xp),.v 30 (.int .i64 a),.v 10 (.int .i64 a)]) (fun p5=>[(1,.int .i64 xp),(2,.bool g),(6,.bool false),(7,.bool true),(8,.int .u64 (m:Int)),(9,.int .u64 (k:Int)),(10,.int .i64 a)]) (by kernel_rfl) (fun _ _=>by kernel_rfl) (fun _=>by kernel_rfl) (fun _=>by kernel_rfl) (fun p5=>?_) (fun p5 W5 T hF hK=>?_)
 ·refine ok_v (by kernel_rfl) ?_
  refine ok_vi (ha) (by kernel_rfl) ?_
  refine ok_v (by kernel_rfl) ?_
  exact ok_nil
 replace hS:=SymF.fb hS hF [] [] (by kernel_rfl) (by kernel_rfl)
 replace hG:=hF.gx
 clear hF
 have z5:=hS.fr.size
 refine wp_symQ hS hG hK (fun p6=>[.v 31 (.int .i64 xp),.v 32 (.int .i64 b),.v 11 (.int .i64 b)]) (fun p6=>[(2,.bool g),(6,.bool false),(7,.bool true),(8,.int .u64 (m:Int)),(9,.int .u64 (k:Int)),(10,.int .i64 a),(11,.int .i64 b)]) (by kernel_rfl) (fun _ _=>by kernel_rfl) (fun _=>by kernel_rfl) (fun _=>by kernel_rfl) (fun p6=>?_) (fun p6 W6 T hF hK=>?_)
 ·refine ok_v (by kernel_rfl) ?_
  refine ok_vi (hb) (by kernel_rfl) ?_
  refine ok_v (by kernel_rfl) ?_
  exact ok_nil
 replace hS:=SymF.fb hS hF [] [] (by kernel_rfl) (by kernel_rfl)
 replace hG:=hF.gx
 clear hF
 have z6:=hS.fr.size
 refine wp_symQ hS hG hK (fun p7=>[.v 34 (.bool g),.v 35 (.int .u64 (m:Int)),.c (some 36) (cV (.string t1)),.v 37 (.int .i64 a),.c (some 38) (cV (.tuple #[.agg #[.bool g,.string s1,.int .i64 x1],.int .i64 0])),.v 33 (.tuple #[.agg #[.bool g,.string s1,.int .i64 x1],.int .i64 0]),.v 39 (.agg #[.bool g,.string s1,.int .i64 x1]),.v 40 (.int .i64 0),.n 12 #[.bool false,.string ⟨#[]⟩,.int .i64 0] 25,.p 1008 0 [.bool g,.string s1,.int .i64 x1],.v 13 (.int .i64 0)]) (fun p7=>[(2,.bool g),(6,.bool false),(7,.bool true),(9,.int .u64 (k:Int)),(11,.int .i64 b),(12,.pointer (some ⟨(p7 8).N,0,none⟩)),(13,.int .i64 0)]) (by kernel_rfl) (fun _ _=>by kernel_rfl) (fun _=>by kernel_rfl) (fun _=>by kernel_rfl) (fun p7=>?_) (fun p7 W7 T hF hK=>?_)
 ·iterate 2 refine ok_v (by kernel_rfl) ?_
  refine ok_c (fun W cx=>as_v (unhide HF1 _ (ht.kept cx.fr))) (by kernel_rfl) ?_
  refine ok_v (by kernel_rfl) ?_
  refine ok_c (fun W cx=>as_v (unhide HM1 _)) (by kernel_rfl) ?_
  iterate 3 refine ok_v (by kernel_rfl) ?_
  refine ok_n (fun _=>by kernel_rfl) ?_
  refine ok_P (by kernel_rfl) (by kernel_rfl) (by kernel_rfl) ?_
  refine ok_v (by kernel_rfl) ?_
  exact ok_nil
 replace hS:=SymF.fb hS hF [1008] [⟨(p7 8).N,#[.bool g,.string s1,.int .i64 x1],25,true⟩] (by kernel_rfl) (by kernel_rfl)
 replace hG:=hF.gx
 clear hF
 have z7:=hS.fr.size
 refine wp_symQ hS hG hK (fun p8=>[.v 42 (.bool g),.v 43 (.int .u64 (k:Int)),.c (some 44) (cV (.string t2)),.v 45 (.int .i64 b),.c (some 46) (cV (.tuple #[.agg #[.bool g,.string s2,.int .i64 x2],.int .i64 0])),.v 41 (.tuple #[.agg #[.bool g,.string s2,.int .i64 x2],.int .i64 0]),.v 47 (.agg #[.bool g,.string s2,.int .i64 x2]),.v 48 (.int .i64 0),.n 14 #[.bool false,.string ⟨#[]⟩,.int .i64 0] 25,.p 1008 0 [.bool g,.string s2,.int .i64 x2],.v 15 (.int .i64 0)]) (fun p8=>[(6,.bool false),(7,.bool true),(12,.pointer (some ⟨(p7 8).N,0,none⟩)),(13,.int .i64 0),(14,.pointer (some ⟨(p8 8).N,0,none⟩)),(15,.int .i64 0)]) (by kernel_rfl) (fun _ _=>by kernel_rfl) (fun _=>by kernel_rfl) (fun _=>by kernel_rfl) (fun p8=>?_) (fun p8 W8 T hF hK=>?_)
 ·iterate 2 refine ok_v (by kernel_rfl) ?_
  refine ok_c (fun W cx=>as_v (unhide HF2 _ (ht.kept cx.fr))) (by kernel_rfl) ?_
  refine ok_v (by kernel_rfl) ?_
  refine ok_c (fun W cx=>as_v (unhide HM2 _)) (by kernel_rfl) ?_
  iterate 3 refine ok_v (by kernel_rfl) ?_
  refine ok_n (fun _=>by kernel_rfl) ?_
  refine ok_P (by kernel_rfl) (by kernel_rfl) (by kernel_rfl) ?_
  refine ok_v (by kernel_rfl) ?_
  exact ok_nil
 replace hS:=SymF.fb hS hF [0,1008] [⟨(p7 8).N,#[.bool g,.string s1,.int .i64 x1],25,true⟩,⟨(p8 8).N,#[.bool g,.string s2,.int .i64 x2],25,true⟩] (by kernel_rfl) (by kernel_rfl)
 replace hG:=hF.gx
 clear hF
 have z8:=hS.fr.size
 refine wp_seq ?_
 refine wp_symQ hS hG hK (fun p9=>[.v 49 (.bool true),.v 50 (.bool false),.v 51 (.bool false),.v 52 (.int .i64 0),.v 53 (.bool false),.v 54 (.bool false),.v 55 (.bool false),.v 56 (.int .i64 0),.v 57 (.bool false),.v 58 (.bool false)]) (fun p9=>[(6,.bool false),(12,.pointer (some ⟨(p7 8).N,0,none⟩)),(14,.pointer (some ⟨(p8 8).N,0,none⟩)),(58,.bool false)]) (by kernel_rfl) (fun _ _=>by kernel_rfl) (fun _=>by kernel_rfl) (fun _=>by kernel_rfl) (fun p9=>?_) (fun p9 W9 T hF hK=>?_)
 ·iterate 10 refine ok_v (by kernel_rfl) ?_
  exact ok_nil
 replace hS:=SymF.fb hS hF [0,1] [⟨(p7 8).N,#[.bool g,.string s1,.int .i64 x1],25,true⟩,⟨(p8 8).N,#[.bool g,.string s2,.int .i64 x2],25,true⟩] (by kernel_rfl) (by kernel_rfl)
 replace hG:=hF.gx
 clear hF
 have z9:=hS.fr.size
 refine wp_cond_false (hK.ev 58 (by kernel_rfl) _ (by kernel_rfl)) ?_
 refine wp_skip ?_
 refine then_n ?_
 refine wp_seq ?_
 refine wp_symQ hS hG hK (fun p10=>[.v 59 (.pointer (some ⟨(p7 8).N,2,none⟩)),.l 60 (.int .i64 x1) 0 2,.v 61 (.bool false),.v 62 (.bool false),.v 63 (.pointer (some ⟨(p8 8).N,2,none⟩)),.l 64 (.int .i64 x2) 1 2,.v 65 (.bool true),.v 66 (.bool true)]) (fun p10=>[(6,.bool false),(12,.pointer (some ⟨(p7 8).N,0,none⟩)),(14,.pointer (some ⟨(p8 8).N,0,none⟩)),(58,.bool false),(66,.bool true)]) (by kernel_rfl) (fun _ _=>by kernel_rfl) (fun _=>by kernel_rfl) (fun _=>by kernel_rfl) (fun p10=>?_) (fun p10 W10 T hF hK=>?_)
 ·refine ok_v (by kernel_rfl) ?_
  refine ok_L (by kernel_rfl) (by kernel_rfl) (by kernel_rfl) ?_
  refine ok_vb (decide_eq_false (show ¬ x1 > 22 by omega)) (by kernel_rfl) ?_
  iterate 2 refine ok_v (by kernel_rfl) ?_
  refine ok_L (by kernel_rfl) (by kernel_rfl) (by kernel_rfl) ?_
  refine ok_vb (decide_eq_true (show x2 > 10 by omega)) (by kernel_rfl) ?_
  refine ok_v (by kernel_rfl) ?_
  exact ok_nil
 replace hS:=SymF.fb hS hF [0,1] [⟨(p7 8).N,#[.bool g,.string s1,.int .i64 x1],25,true⟩,⟨(p8 8).N,#[.bool g,.string s2,.int .i64 x2],25,true⟩] (by kernel_rfl) (by kernel_rfl)
 replace hG:=hF.gx
 clear hF
 have z10:=hS.fr.size
 refine wp_cond_true (hK.ev 66 (by kernel_rfl) _ (by kernel_rfl)) ?_
 refine wp_symQ hS hG hK (fun p11=>[.v 6 (.bool true)]) (fun p11=>[(6,.bool true),(12,.pointer (some ⟨(p7 8).N,0,none⟩)),(14,.pointer (some ⟨(p8 8).N,0,none⟩)),(58,.bool false),(66,.bool true)]) (by kernel_rfl) (fun _ _=>by kernel_rfl) (fun _=>by kernel_rfl) (fun _=>by kernel_rfl) (fun p11=>?_) (fun p11 W11 T hF hK=>?_)
 ·refine ok_v (by kernel_rfl) ?_
  exact ok_nil
 replace hS:=SymF.fb hS hF [0,1] [⟨(p7 8).N,#[.bool g,.string s1,.int .i64 x1],25,true⟩,⟨(p8 8).N,#[.bool g,.string s2,.int .i64 x2],25,true⟩] (by kernel_rfl) (by kernel_rfl)
 replace hG:=hF.gx
 clear hF
 have z11:=hS.fr.size
 refine wp_ret ?_
 refine then_r ?_
 exact sym_end hS hK (.bool true) [] [] (by kernel_rfl) (by kernel_rfl) ⟨rfl,hS.fr⟩
theorem qs_go (w:World) (n:Nat) (xp:Int) (g:Bool) (m k:Nat) (a b:Int) (t1 t2 s1 s2:ByteArray) (x1 x2:Int) (fa fb fc fd:Nat) (ht:Tpw w) (hm:Int.tmod (n:Int) 9007199254740993 = (m:Int)) (hk:Int.tmod (n:Int) 16777217 = (k:Int)) (ha:Int.tmod xp 23 = a) (hb:Int.tmod xp 11 = b) (H0:Hid (∀ W:World,Calls Tryd.prog 4 #[] W fun e W'=>e = .returned (.bool true)∧Below W.heap.size W W')) (HF1:Hid (∀ W:World,Tpw W→Calls Tryd.prog 6 #[.int .u64 (m:Int),.int .i64 10] W fun e W'=>e = .returned (.string t1)∧Below W.heap.size W W')) (HF2:Hid (∀ W:World,Tpw W→Calls Tryd.prog 6 #[.int .u64 (k:Int),.int .i64 10] W fun e W'=>e = .returned (.string t2)∧Below W.heap.size W W')) (HM1:Hid (∀ W:World,Calls Tryd.prog 5 #[.bool g,.string t1,.int .i64 a] W fun e W'=>e = .returned (.tuple #[.agg #[.bool g,.string s1,.int .i64 x1],.int .i64 0])∧Below W.heap.size W W')) (HM2:Hid (∀ W:World,Calls Tryd.prog 5 #[.bool g,.string t2,.int .i64 b] W fun e W'=>e = .returned (.tuple #[.agg #[.bool g,.string s2,.int .i64 x2],.int .i64 0])∧Below W.heap.size W W')) (h1:x1≤22) (h2:x2≤10) (HD1:Hid (∀ W:World,Calls Tryd.prog 7 #[.agg #[.bool g,.string s1,.int .i64 x1]] W fun e W'=>e = .returned (.tuple #[.float .f64 fa,.bool true])∧Below W.heap.size W W')) (HD2:Hid (∀ W:World,Calls Tryd.prog 7 #[.agg #[.bool (!g),.string s1,.int .i64 x1]] W fun e W'=>e = .returned (.tuple #[.float .f64 fb,.bool true])∧Below W.heap.size W W')) (HS1:Hid (∀ W:World,Calls Tryd.prog 8 #[.agg #[.bool g,.string s2,.int .i64 x2]] W fun e W'=>e = .returned (.tuple #[.float .f32 fc,.bool true])∧Below W.heap.size W W')) (HS2:Hid (∀ W:World,Calls Tryd.prog 8 #[.agg #[.bool (!g),.string s2,.int .i64 x2]] W fun e W'=>e = .returned (.tuple #[.float .f32 fd,.bool true])∧Below W.heap.size W W')) (HT:Hid (∀ W:World,Calls Tryd.prog 11 #[.agg #[.bool (!g),.string s1,.int .i64 x1]] W fun e W'=>e = .returned (.bool true)∧Below W.heap.size W W')) (hx1:Go.bits .xor .u64 (fa:Int) (fb:Int) = 9223372036854775808) (hx2:Go.bits .xor .u32 (fc:Int) (fd:Int) = 2147483648) :
  Calls Tryd.prog 3 #[.int .u64 (n:Int),.int .i64 xp,.bool g] w fun en w'=>en = .returned (.bool true)∧Below w.heap.size w w':=by
 refine calls_sym Tryd.func3 rfl (by kernel_rfl) fun T hK=>?_
 replace hK:Kn T _ [(0,.int .u64 (n:Int)),(1,.int .i64 xp),(2,.bool g)]:=hK
 have hS:=Fb.begin w
 have hG:GsAt [] w:=trivial
 refine wp_symQ hS hG hK (fun p1=>[.v 6 (.bool false)]) (fun p1=>[(0,.int .u64 (n:Int)),(1,.int .i64 xp),(2,.bool g),(6,.bool false)]) (by kernel_rfl) (fun _ _=>by kernel_rfl) (fun _=>by kernel_rfl) (fun _=>by kernel_rfl) (fun p1=>?_) (fun p1 W1 T hF hK=>?_)
 ·refine ok_v (by kernel_rfl) ?_
  exact ok_nil
 replace hS:=SymF.fb hS hF [] [] (by kernel_rfl) (by kernel_rfl)
 replace hG:=hF.gx
 clear hF
 have z1:=hS.fr.size
 refine wp_symQ hS hG hK (fun p2=>[.c (some 24) (cV (.bool true)),.v 7 (.bool true)]) (fun p2=>[(0,.int .u64 (n:Int)),(1,.int .i64 xp),(2,.bool g),(6,.bool false),(7,.bool true)]) (by kernel_rfl) (fun _ _=>by kernel_rfl) (fun _=>by kernel_rfl) (fun _=>by kernel_rfl) (fun p2=>?_) (fun p2 W2 T hF hK=>?_)
 ·refine ok_c (fun W cx=>as_v (unhide H0 _)) (by kernel_rfl) ?_
  refine ok_v (by kernel_rfl) ?_
  exact ok_nil
 replace hS:=SymF.fb hS hF [] [] (by kernel_rfl) (by kernel_rfl)
 replace hG:=hF.gx
 clear hF
 have z2:=hS.fr.size
 refine wp_symQ hS hG hK (fun p3=>[.v 25 (.int .u64 (n:Int)),.v 26 (.int .u64 (m:Int)),.v 8 (.int .u64 (m:Int))]) (fun p3=>[(0,.int .u64 (n:Int)),(1,.int .i64 xp),(2,.bool g),(6,.bool false),(7,.bool true),(8,.int .u64 (m:Int))]) (by kernel_rfl) (fun _ _=>by kernel_rfl) (fun _=>by kernel_rfl) (fun _=>by kernel_rfl) (fun p3=>?_) (fun p3 W3 T hF hK=>?_)
 ·refine ok_v (by kernel_rfl) ?_
  refine ok_vi (hm) (by kernel_rfl) ?_
  refine ok_v (by kernel_rfl) ?_
  exact ok_nil
 replace hS:=SymF.fb hS hF [] [] (by kernel_rfl) (by kernel_rfl)
 replace hG:=hF.gx
 clear hF
 have z3:=hS.fr.size
 refine wp_symQ hS hG hK (fun p4=>[.v 27 (.int .u64 (n:Int)),.v 28 (.int .u64 (k:Int)),.v 9 (.int .u64 (k:Int))]) (fun p4=>[(1,.int .i64 xp),(2,.bool g),(6,.bool false),(7,.bool true),(8,.int .u64 (m:Int)),(9,.int .u64 (k:Int))]) (by kernel_rfl) (fun _ _=>by kernel_rfl) (fun _=>by kernel_rfl) (fun _=>by kernel_rfl) (fun p4=>?_) (fun p4 W4 T hF hK=>?_)
 ·refine ok_v (by kernel_rfl) ?_
  refine ok_vi (hk) (by kernel_rfl) ?_
  refine ok_v (by kernel_rfl) ?_
  exact ok_nil
 replace hS:=SymF.fb hS hF [] [] (by kernel_rfl) (by kernel_rfl)
 replace hG:=hF.gx
 clear hF
 have z4:=hS.fr.size
 refine wp_symQ hS hG hK (fun p5=>[.v 29 (.int .i64 xp),.v 30 (.int .i64 a),.v 10 (.int .i64 a)]) (fun p5=>[(1,.int .i64 xp),(2,.bool g),(6,.bool false),(7,.bool true),(8,.int .u64 (m:Int)),(9,.int .u64 (k:Int)),(10,.int .i64 a)]) (by kernel_rfl) (fun _ _=>by kernel_rfl) (fun _=>by kernel_rfl) (fun _=>by kernel_rfl) (fun p5=>?_) (fun p5 W5 T hF hK=>?_)
 ·refine ok_v (by kernel_rfl) ?_
  refine ok_vi (ha) (by kernel_rfl) ?_
  refine ok_v (by kernel_rfl) ?_
  exact ok_nil
 replace hS:=SymF.fb hS hF [] [] (by kernel_rfl) (by kernel_rfl)
 replace hG:=hF.gx
 clear hF
 have z5:=hS.fr.size
 refine wp_symQ hS hG hK (fun p6=>[.v 31 (.int .i64 xp),.v 32 (.int .i64 b),.v 11 (.int .i64 b)]) (fun p6=>[(2,.bool g),(6,.bool false),(7,.bool true),(8,.int .u64 (m:Int)),(9,.int .u64 (k:Int)),(10,.int .i64 a),(11,.int .i64 b)]) (by kernel_rfl) (fun _ _=>by kernel_rfl) (fun _=>by kernel_rfl) (fun _=>by kernel_rfl) (fun p6=>?_) (fun p6 W6 T hF hK=>?_)
 ·refine ok_v (by kernel_rfl) ?_
  refine ok_vi (hb) (by kernel_rfl) ?_
  refine ok_v (by kernel_rfl) ?_
  exact ok_nil
 replace hS:=SymF.fb hS hF [] [] (by kernel_rfl) (by kernel_rfl)
 replace hG:=hF.gx
 clear hF
 have z6:=hS.fr.size
 refine wp_symQ hS hG hK (fun p7=>[.v 34 (.bool g),.v 35 (.int .u64 (m:Int)),.c (some 36) (cV (.string t1)),.v 37 (.int .i64 a),.c (some 38) (cV (.tuple #[.agg #[.bool g,.string s1,.int .i64 x1],.int .i64 0])),.v 33 (.tuple #[.agg #[.bool g,.string s1,.int .i64 x1],.int .i64 0]),.v 39 (.agg #[.bool g,.string s1,.int .i64 x1]),.v 40 (.int .i64 0),.n 12 #[.bool false,.string ⟨#[]⟩,.int .i64 0] 25,.p 1008 0 [.bool g,.string s1,.int .i64 x1],.v 13 (.int .i64 0)]) (fun p7=>[(2,.bool g),(6,.bool false),(7,.bool true),(9,.int .u64 (k:Int)),(11,.int .i64 b),(12,.pointer (some ⟨(p7 8).N,0,none⟩)),(13,.int .i64 0)]) (by kernel_rfl) (fun _ _=>by kernel_rfl) (fun _=>by kernel_rfl) (fun _=>by kernel_rfl) (fun p7=>?_) (fun p7 W7 T hF hK=>?_)
 ·iterate 2 refine ok_v (by kernel_rfl) ?_
  refine ok_c (fun W cx=>as_v (unhide HF1 _ (ht.kept cx.fr))) (by kernel_rfl) ?_
  refine ok_v (by kernel_rfl) ?_
  refine ok_c (fun W cx=>as_v (unhide HM1 _)) (by kernel_rfl) ?_
  iterate 3 refine ok_v (by kernel_rfl) ?_
  refine ok_n (fun _=>by kernel_rfl) ?_
  refine ok_P (by kernel_rfl) (by kernel_rfl) (by kernel_rfl) ?_
  refine ok_v (by kernel_rfl) ?_
  exact ok_nil
 replace hS:=SymF.fb hS hF [1008] [⟨(p7 8).N,#[.bool g,.string s1,.int .i64 x1],25,true⟩] (by kernel_rfl) (by kernel_rfl)
 replace hG:=hF.gx
 clear hF
 have z7:=hS.fr.size
 refine wp_symQ hS hG hK (fun p8=>[.v 42 (.bool g),.v 43 (.int .u64 (k:Int)),.c (some 44) (cV (.string t2)),.v 45 (.int .i64 b),.c (some 46) (cV (.tuple #[.agg #[.bool g,.string s2,.int .i64 x2],.int .i64 0])),.v 41 (.tuple #[.agg #[.bool g,.string s2,.int .i64 x2],.int .i64 0]),.v 47 (.agg #[.bool g,.string s2,.int .i64 x2]),.v 48 (.int .i64 0),.n 14 #[.bool false,.string ⟨#[]⟩,.int .i64 0] 25,.p 1008 0 [.bool g,.string s2,.int .i64 x2],.v 15 (.int .i64 0)]) (fun p8=>[(6,.bool false),(7,.bool true),(12,.pointer (some ⟨(p7 8).N,0,none⟩)),(13,.int .i64 0),(14,.pointer (some ⟨(p8 8).N,0,none⟩)),(15,.int .i64 0)]) (by kernel_rfl) (fun _ _=>by kernel_rfl) (fun _=>by kernel_rfl) (fun _=>by kernel_rfl) (fun p8=>?_) (fun p8 W8 T hF hK=>?_)
 ·iterate 2 refine ok_v (by kernel_rfl) ?_
  refine ok_c (fun W cx=>as_v (unhide HF2 _ (ht.kept cx.fr))) (by kernel_rfl) ?_
  refine ok_v (by kernel_rfl) ?_
  refine ok_c (fun W cx=>as_v (unhide HM2 _)) (by kernel_rfl) ?_
  iterate 3 refine ok_v (by kernel_rfl) ?_
  refine ok_n (fun _=>by kernel_rfl) ?_
  refine ok_P (by kernel_rfl) (by kernel_rfl) (by kernel_rfl) ?_
  refine ok_v (by kernel_rfl) ?_
  exact ok_nil
 replace hS:=SymF.fb hS hF [0,1008] [⟨(p7 8).N,#[.bool g,.string s1,.int .i64 x1],25,true⟩,⟨(p8 8).N,#[.bool g,.string s2,.int .i64 x2],25,true⟩] (by kernel_rfl) (by kernel_rfl)
 replace hG:=hF.gx
 clear hF
 have z8:=hS.fr.size
 refine wp_seq ?_
 refine wp_symQ hS hG hK (fun p9=>[.v 49 (.bool true),.v 50 (.bool false),.v 51 (.bool false),.v 52 (.int .i64 0),.v 53 (.bool false),.v 54 (.bool false),.v 55 (.bool false),.v 56 (.int .i64 0),.v 57 (.bool false),.v 58 (.bool false)]) (fun p9=>[(6,.bool false),(12,.pointer (some ⟨(p7 8).N,0,none⟩)),(14,.pointer (some ⟨(p8 8).N,0,none⟩)),(58,.bool false)]) (by kernel_rfl) (fun _ _=>by kernel_rfl) (fun _=>by kernel_rfl) (fun _=>by kernel_rfl) (fun p9=>?_) (fun p9 W9 T hF hK=>?_)
 ·iterate 10 refine ok_v (by kernel_rfl) ?_
  exact ok_nil
 replace hS:=SymF.fb hS hF [0,1] [⟨(p7 8).N,#[.bool g,.string s1,.int .i64 x1],25,true⟩,⟨(p8 8).N,#[.bool g,.string s2,.int .i64 x2],25,true⟩] (by kernel_rfl) (by kernel_rfl)
 replace hG:=hF.gx
 clear hF
 have z9:=hS.fr.size
 refine wp_cond_false (hK.ev 58 (by kernel_rfl) _ (by kernel_rfl)) ?_
 refine wp_skip ?_
 refine then_n ?_
 refine wp_seq ?_
 refine wp_symQ hS hG hK (fun p10=>[.v 59 (.pointer (some ⟨(p7 8).N,2,none⟩)),.l 60 (.int .i64 x1) 0 2,.v 61 (.bool false),.v 62 (.bool false),.v 63 (.pointer (some ⟨(p8 8).N,2,none⟩)),.l 64 (.int .i64 x2) 1 2,.v 65 (.bool false),.v 66 (.bool false)]) (fun p10=>[(6,.bool false),(12,.pointer (some ⟨(p7 8).N,0,none⟩)),(14,.pointer (some ⟨(p8 8).N,0,none⟩)),(58,.bool false),(66,.bool false)]) (by kernel_rfl) (fun _ _=>by kernel_rfl) (fun _=>by kernel_rfl) (fun _=>by kernel_rfl) (fun p10=>?_) (fun p10 W10 T hF hK=>?_)
 ·refine ok_v (by kernel_rfl) ?_
  refine ok_L (by kernel_rfl) (by kernel_rfl) (by kernel_rfl) ?_
  refine ok_vb (decide_eq_false (show ¬ x1 > 22 by omega)) (by kernel_rfl) ?_
  iterate 2 refine ok_v (by kernel_rfl) ?_
  refine ok_L (by kernel_rfl) (by kernel_rfl) (by kernel_rfl) ?_
  refine ok_vb (decide_eq_false (show ¬ x2 > 10 by omega)) (by kernel_rfl) ?_
  refine ok_v (by kernel_rfl) ?_
  exact ok_nil
 replace hS:=SymF.fb hS hF [0,1] [⟨(p7 8).N,#[.bool g,.string s1,.int .i64 x1],25,true⟩,⟨(p8 8).N,#[.bool g,.string s2,.int .i64 x2],25,true⟩] (by kernel_rfl) (by kernel_rfl)
 replace hG:=hF.gx
 clear hF
 have z10:=hS.fr.size
 refine wp_cond_false (hK.ev 66 (by kernel_rfl) _ (by kernel_rfl)) ?_
 refine wp_skip ?_
 refine then_n ?_
 refine wp_symQ hS hG hK (fun p11=>[.l 68 (.agg #[.bool g,.string s1,.int .i64 x1]) 0 0,.c (some 69) (cV (.tuple #[.float .f64 fa,.bool true])),.v 67 (.tuple #[.float .f64 fa,.bool true]),.v 70 (.float .f64 fa),.v 71 (.bool true),.v 16 (.float .f64 fa),.v 17 (.bool true)]) (fun p11=>[(6,.bool false),(12,.pointer (some ⟨(p7 8).N,0,none⟩)),(14,.pointer (some ⟨(p8 8).N,0,none⟩)),(16,.float .f64 fa),(17,.bool true),(58,.bool false),(66,.bool false)]) (by kernel_rfl) (fun _ _=>by kernel_rfl) (fun _=>by kernel_rfl) (fun _=>by kernel_rfl) (fun p11=>?_) (fun p11 W11 T hF hK=>?_)
 ·refine ok_L (by kernel_rfl) (by kernel_rfl) (by kernel_rfl) ?_
  refine ok_c (fun W cx=>as_v (unhide HD1 _)) (by kernel_rfl) ?_
  iterate 5 refine ok_v (by kernel_rfl) ?_
  exact ok_nil
 replace hS:=SymF.fb hS hF [0,1] [⟨(p7 8).N,#[.bool g,.string s1,.int .i64 x1],25,true⟩,⟨(p8 8).N,#[.bool g,.string s2,.int .i64 x2],25,true⟩] (by kernel_rfl) (by kernel_rfl)
 replace hG:=hF.gx
 clear hF
 have z11:=hS.fr.size
 refine wp_symQ hS hG hK (fun p12=>[.l 73 (.agg #[.bool g,.string s2,.int .i64 x2]) 1 0,.c (some 74) (cV (.tuple #[.float .f32 fc,.bool true])),.v 72 (.tuple #[.float .f32 fc,.bool true]),.v 75 (.float .f32 fc),.v 76 (.bool true),.v 18 (.float .f32 fc),.v 19 (.bool true)]) (fun p12=>[(6,.bool false),(12,.pointer (some ⟨(p7 8).N,0,none⟩)),(14,.pointer (some ⟨(p8 8).N,0,none⟩)),(16,.float .f64 fa),(17,.bool true),(18,.float .f32 fc),(19,.bool true),(58,.bool false),(66,.bool false)]) (by kernel_rfl) (fun _ _=>by kernel_rfl) (fun _=>by kernel_rfl) (fun _=>by kernel_rfl) (fun p12=>?_) (fun p12 W12 T hF hK=>?_)
 ·refine ok_L (by kernel_rfl) (by kernel_rfl) (by kernel_rfl) ?_
  refine ok_c (fun W cx=>as_v (unhide HS1 _)) (by kernel_rfl) ?_
  iterate 5 refine ok_v (by kernel_rfl) ?_
  exact ok_nil
 replace hS:=SymF.fb hS hF [0,1] [⟨(p7 8).N,#[.bool g,.string s1,.int .i64 x1],25,true⟩,⟨(p8 8).N,#[.bool g,.string s2,.int .i64 x2],25,true⟩] (by kernel_rfl) (by kernel_rfl)
 replace hG:=hF.gx
 clear hF
 have z12:=hS.fr.size
 refine wp_symQ hS hG hK (fun p13=>[.v 77 (.pointer (some ⟨(p7 8).N,0,none⟩)),.l 78 (.bool g) 0 0,.v 79 (.bool (!g)),.v 80 (.pointer (some ⟨(p7 8).N,0,none⟩)),.p 0 0 [.bool (!g)]]) (fun p13=>[(6,.bool false),(12,.pointer (some ⟨(p7 8).N,0,none⟩)),(14,.pointer (some ⟨(p8 8).N,0,none⟩)),(16,.float .f64 fa),(17,.bool true),(18,.float .f32 fc),(19,.bool true),(58,.bool false),(66,.bool false)]) (by kernel_rfl) (fun _ _=>by kernel_rfl) (fun _=>by kernel_rfl) (fun _=>by kernel_rfl) (fun p13=>?_) (fun p13 W13 T hF hK=>?_)
 ·refine ok_v (by kernel_rfl) ?_
  refine ok_L (by kernel_rfl) (by kernel_rfl) (by kernel_rfl) ?_
  iterate 2 refine ok_v (by kernel_rfl) ?_
  refine ok_P (by kernel_rfl) (by kernel_rfl) (by kernel_rfl) ?_
  exact ok_nil
 replace hS:=SymF.fb hS hF [0,1] [⟨(p7 8).N,#[.bool (!g),.string s1,.int .i64 x1],25,true⟩,⟨(p8 8).N,#[.bool g,.string s2,.int .i64 x2],25,true⟩] (by kernel_rfl) (by kernel_rfl)
 replace hG:=hF.gx
 clear hF
 have z13:=hS.fr.size
 refine wp_symQ hS hG hK (fun p14=>[.v 81 (.pointer (some ⟨(p8 8).N,0,none⟩)),.l 82 (.bool g) 1 0,.v 83 (.bool (!g)),.v 84 (.pointer (some ⟨(p8 8).N,0,none⟩)),.p 1 0 [.bool (!g)]]) (fun p14=>[(6,.bool false),(12,.pointer (some ⟨(p7 8).N,0,none⟩)),(14,.pointer (some ⟨(p8 8).N,0,none⟩)),(16,.float .f64 fa),(17,.bool true),(18,.float .f32 fc),(19,.bool true),(58,.bool false),(66,.bool false)]) (by kernel_rfl) (fun _ _=>by kernel_rfl) (fun _=>by kernel_rfl) (fun _=>by kernel_rfl) (fun p14=>?_) (fun p14 W14 T hF hK=>?_)
 ·refine ok_v (by kernel_rfl) ?_
  refine ok_L (by kernel_rfl) (by kernel_rfl) (by kernel_rfl) ?_
  iterate 2 refine ok_v (by kernel_rfl) ?_
  refine ok_P (by kernel_rfl) (by kernel_rfl) (by kernel_rfl) ?_
  exact ok_nil
 replace hS:=SymF.fb hS hF [0,1] [⟨(p7 8).N,#[.bool (!g),.string s1,.int .i64 x1],25,true⟩,⟨(p8 8).N,#[.bool (!g),.string s2,.int .i64 x2],25,true⟩] (by kernel_rfl) (by kernel_rfl)
 replace hG:=hF.gx
 clear hF
 have z14:=hS.fr.size
 refine wp_symQ hS hG hK (fun p15=>[.l 86 (.agg #[.bool (!g),.string s1,.int .i64 x1]) 0 0,.c (some 87) (cV (.tuple #[.float .f64 fb,.bool true])),.v 85 (.tuple #[.float .f64 fb,.bool true]),.v 88 (.float .f64 fb),.v 89 (.bool true),.v 20 (.float .f64 fb),.v 21 (.bool true)]) (fun p15=>[(6,.bool false),(12,.pointer (some ⟨(p7 8).N,0,none⟩)),(14,.pointer (some ⟨(p8 8).N,0,none⟩)),(16,.float .f64 fa),(17,.bool true),(18,.float .f32 fc),(19,.bool true),(20,.float .f64 fb),(21,.bool true),(58,.bool false),(66,.bool false)]) (by kernel_rfl) (fun _ _=>by kernel_rfl) (fun _=>by kernel_rfl) (fun _=>by kernel_rfl) (fun p15=>?_) (fun p15 W15 T hF hK=>?_)
 ·refine ok_L (by kernel_rfl) (by kernel_rfl) (by kernel_rfl) ?_
  refine ok_c (fun W cx=>as_v (unhide HD2 _)) (by kernel_rfl) ?_
  iterate 5 refine ok_v (by kernel_rfl) ?_
  exact ok_nil
 replace hS:=SymF.fb hS hF [0,1] [⟨(p7 8).N,#[.bool (!g),.string s1,.int .i64 x1],25,true⟩,⟨(p8 8).N,#[.bool (!g),.string s2,.int .i64 x2],25,true⟩] (by kernel_rfl) (by kernel_rfl)
 replace hG:=hF.gx
 clear hF
 have z15:=hS.fr.size
 refine wp_symQ hS hG hK (fun p16=>[.l 91 (.agg #[.bool (!g),.string s2,.int .i64 x2]) 1 0,.c (some 92) (cV (.tuple #[.float .f32 fd,.bool true])),.v 90 (.tuple #[.float .f32 fd,.bool true]),.v 93 (.float .f32 fd),.v 94 (.bool true),.v 22 (.float .f32 fd),.v 23 (.bool true)]) (fun p16=>[(6,.bool false),(12,.pointer (some ⟨(p7 8).N,0,none⟩)),(16,.float .f64 fa),(17,.bool true),(18,.float .f32 fc),(19,.bool true),(20,.float .f64 fb),(21,.bool true),(22,.float .f32 fd),(23,.bool true),(58,.bool false),(66,.bool false)]) (by kernel_rfl) (fun _ _=>by kernel_rfl) (fun _=>by kernel_rfl) (fun _=>by kernel_rfl) (fun p16=>?_) (fun p16 W16 T hF hK=>?_)
 ·refine ok_L (by kernel_rfl) (by kernel_rfl) (by kernel_rfl) ?_
  refine ok_c (fun W cx=>as_v (unhide HS2 _)) (by kernel_rfl) ?_
  iterate 5 refine ok_v (by kernel_rfl) ?_
  exact ok_nil
 replace hS:=SymF.fb hS hF [0] [⟨(p7 8).N,#[.bool (!g),.string s1,.int .i64 x1],25,true⟩] (by kernel_rfl) (by kernel_rfl)
 replace hG:=hF.gx
 clear hF
 have z16:=hS.fr.size
 refine wp_symQ hS hG hK (fun p17=>[.v 95 (.bool true),.v 96 (.bool true),.v 97 (.bool true),.v 98 (.bool true),.v 99 (.bool true),.v 100 (.bool true),.v 101 (.bool true),.v 102 (.bool true),.v 103 (.bool true),.v 104 (.bool true),.v 105 (.bool true),.v 106 (.float .f64 fa),.v 107 (.int .u64 (fa:Int)),.v 108 (.float .f64 fb),.v 109 (.int .u64 (fb:Int)),.v 110 (.int .u64 9223372036854775808),.v 111 (.bool true),.v 112 (.bool true),.v 113 (.bool true),.v 114 (.float .f32 fc),.v 115 (.int .u32 (fc:Int)),.v 116 (.float .f32 fd),.v 117 (.int .u32 (fd:Int)),.v 118 (.int .u32 2147483648),.v 119 (.bool true),.v 120 (.bool true),.v 121 (.bool true),.l 122 (.agg #[.bool (!g),.string s1,.int .i64 x1]) 0 0,.c (some 123) (cV (.bool true)),.v 124 (.bool true),.v 6 (.bool true)]) (fun p17=>[(6,.bool true),(58,.bool false),(66,.bool false)]) (by kernel_rfl) (fun _ _=>by kernel_rfl) (fun _=>by kernel_rfl) (fun _=>by kernel_rfl) (fun p17=>?_) (fun p17 W17 T hF hK=>?_)
 ·iterate 15 refine ok_v (by kernel_rfl) ?_
  refine ok_vi (hx1) (by kernel_rfl) ?_
  iterate 7 refine ok_v (by kernel_rfl) ?_
  refine ok_vi (hx2) (by kernel_rfl) ?_
  iterate 3 refine ok_v (by kernel_rfl) ?_
  refine ok_L (by kernel_rfl) (by kernel_rfl) (by kernel_rfl) ?_
  refine ok_c (fun W cx=>as_v (unhide HT _)) (by kernel_rfl) ?_
  iterate 2 refine ok_v (by kernel_rfl) ?_
  exact ok_nil
 replace hS:=SymF.fb hS hF [] [] (by kernel_rfl) (by kernel_rfl)
 replace hG:=hF.gx
 clear hF
 have z17:=hS.fr.size
 refine wp_ret ?_
 exact sym_end hS hK (.bool true) [] [] (by kernel_rfl) (by kernel_rfl) ⟨rfl,hS.fr⟩
end Go.Proofs.YtohjmjlfmloiaaaDoor
