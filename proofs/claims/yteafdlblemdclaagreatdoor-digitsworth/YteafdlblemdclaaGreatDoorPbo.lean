/- Of what DigitsWorthRow stands on: DcItoa DcNeaN DgCl0 DgCl1 SymW DcPart DcTextsLaw DbLaw SOrdA SOrdLaw RsHalfM RsLaw DgLaw. -/
import Derived.Test.YteafdlblemdclaaGreatDoorPad
import Derived.Shelf.Strconv.Itoa3
import Derived.Lib.AppendIntMem
import Derived.Test.YteafdlblemdclaaGreatDoorPbg
import Derived.Test.YteafdlblemdclaaGreatDoorPbe
import Derived.Test.YteafdlblemdclaaGreatDoorPax
import Derived.Test.YteafdlblemdclaaGreatDoorProg
import Derived.Test.YteafdlblemdclaaGreatDoorPbm
import Derived.Test.YteafdlblemdclaaGreatDoorPbf
import Derived.ChangeKeysEq
import Derived.Lib.ItoaLen
import Derived.Test.YteafdlblemdclaaGreatDoorPaw
import Derived.Test.YteafdlblemdclaaGreatDoorPbj
import Derived.Test.YteafdlblemdclaaGreatDoorPaz
import Derived.Test.YteafdlblemdclaaGreatDoorPba
import Derived.Test.YteafdlblemdclaaGreatDoorPbc
import Derived.Test.YteafdlblemdclaaGreatDoorPap
import Derived.Test.YteafdlblemdclaaGreatDoorPbh
import Derived.Test.YteafdlblemdclaaGreatDoorPal
import Derived.Test.YteafdlblemdclaaGreatDoorPak
import Derived.Test.YteafdlblemdclaaGreatDoorPab
import Derived.Test.YteafdlblemdclaaGreatDoorPbb
import Derived.Test.YteafdlblemdclaaGreatDoorPau
import Derived.Test.YteafdlblemdclaaGreatDoorPbk
import Derived.Test.YteafdlblemdclaaGreatDoorPbn
namespace Go.Proofs.YteafdlblemdclaaGreatDoor
open Go.RowKit
set_option maxRecDepth 1000000
def Tp (w : World) : Prop := Lib.TabIs Tryz.prog w "internal/strconv.uint64pow10" .u64 Lib.pow10Tab
theorem Tp.kept {w w':World} (h:Tp w) (hb:Below w.heap.size w w'):Tp w':=Lib.tabBelow_of_tabIs h w' hb
theorem Lit.dc {s:ByteArray} {n v:Nat} (h:Lit s n v) (hn:0 < n) (hm:n≤65536) {y:Int} (h0:-1073741824≤y) (h1:y≤1073741824):DcOk s y:=
 ⟨by rw [h.sz]; exact hm,h.ok,h0,h1,fun e=>by rw [h.sz] at e; omega,h.fst,cd_of h.ok h.lst⟩
def dgcl0_gl:List (Nat×Obj):=[]
def dgcl0_tr:List Or:=[.ix 0,.ix 0,.ix 0,.ix 2,.ix 2,.ix 2,.ix 3,.ix 3,.ix 3,.ix 3,.ix 4,.ix 3,.ix 3,.ix 3,.ix 3,.ix 0,.ix 0,.ix 0,.ix 0,.ix 5,.ix 7,.reg 8 [(8,[],[]),(8,[],[]),(8,[],[]),(8,[(5,false)],[.ix 5]),(8,[(7,true),(7,true),(7,true)],[.ix 7,.ix 7,.ix 7])],.ix 7,.reg 8 [(8,[],[]),(8,[],[]),(8,[(5,false)],[.ix 5]),(8,[],[]),(8,[],[]),(8,[(5,false)],[.ix 5]),(8,[],[]),(8,[],[]),(8,[],[]),(8,[],[]),(8,[],[])],.ix 7,.ix 7,.ix 7,.ix 7,.ix 7,.ix 7,.ix 7,.ix 7,.ix 7,.ix 5,.ix 7,.ix 7,.ix 7,.ix 7,.ix 5,.ix 10,.ix 12,.ix 12,.ix 12,.ix 12,.ix 10,.ix 10,.ix 10,.ix 10,.ix 11,.ix 11,.ix 11,.ix 11,.ix 11,.ix 11,.ix 9,.ix 9,.ix 9,.ix 9,.ix 9,.ix 9,.ix 8,.ix 8,.ix 8,.ix 8,.ix 8,.ix 8,.ix 13,.ix 13,.ix 13,.ix 13,.ix 13,.ix 13,.ix 6,.ix 6,.ix 6,.ix 6,.ix 6,.ix 6,.ix 1,.ix 1,.ix 1,.ix 1,.ix 1,.ix 1]
theorem dgcl0_run (pk:CPk):outs (.tuple #[.agg #[.bool false,.string ⟨#[49]⟩,.int .i64 (-1)],.bool false,.int .i64 0]) (fev Tryz.prog 3000 pk 17 #[.agg #[.bool false,.string ⟨#[57,57,57,55,53,53,56,53,57,51,55,53]⟩,.int .i64 (-13)],.int .i64 3,.int .u8 0] ⟨⟨[],dgcl0_gl⟩,0,dgcl0_tr,[]⟩) = told pk 14 (emK dgcl0_tr []):=by kernel_rfl
theorem dgcl0 (W:World) (hW:∀ g o,(g,o)∈dgcl0_gl→∃ o',W.heap[g]? = some o'∧∀ a x,ldO a o = some x→ldO a o' = some x):Calls Tryz.prog 17 #[.agg #[.bool false,.string ⟨#[57,57,57,55,53,53,56,53,57,51,55,53]⟩,.int .i64 (-13)],.int .i64 3,.int .u8 0] W fun e W'=>e = .returned (.tuple #[.agg #[.bool false,.string ⟨#[49]⟩,.int .i64 (-1)],.bool false,.int .i64 0])∧Below W.heap.size W W':=
 closed (by kernel_rfl) 3000 _ _ _ _ _ _ dgcl0_run W hW
def dgcl1_gl:List (Nat×Obj):=[]
def dgcl1_tr:List Or:=[.ix 0,.ix 0,.ix 0,.ix 2,.ix 2,.ix 2,.ix 3,.ix 3,.ix 3,.ix 3,.ix 4,.ix 3,.ix 3,.ix 3,.ix 3,.ix 0,.ix 0,.ix 0,.ix 0,.ix 5,.ix 7,.reg 8 [(8,[],[]),(8,[],[]),(8,[],[]),(8,[(5,false)],[.ix 5]),(8,[],[])],.ix 7,.reg 8 [(8,[],[]),(8,[],[]),(8,[(5,false)],[.ix 5]),(8,[],[]),(8,[],[]),(8,[(5,false)],[.ix 5]),(8,[],[]),(8,[],[]),(8,[],[]),(8,[],[]),(8,[],[])],.ix 7,.ix 7,.ix 7,.ix 5,.ix 7,.ix 5,.ix 10,.ix 12,.ix 12,.ix 12,.ix 12,.ix 10,.ix 10,.ix 10,.ix 10,.ix 11,.ix 11,.ix 11,.ix 11,.ix 11,.ix 11,.ix 9,.ix 9,.ix 9,.ix 9,.ix 9,.ix 9,.ix 8,.ix 8,.ix 8,.ix 8,.ix 8,.ix 8,.ix 13,.ix 13,.ix 13,.ix 13,.ix 13,.ix 13,.ix 6,.ix 6,.ix 6,.ix 6,.ix 6,.ix 6,.ix 1,.ix 1,.ix 1,.ix 1,.ix 1,.ix 1]
theorem dgcl1_run (pk:CPk):outs (.tuple #[.agg #[.bool true,.string ⟨#[49]⟩,.int .i64 (-3)],.bool false,.int .i64 0]) (fev Tryz.prog 3000 pk 18 #[.agg #[.bool true,.string ⟨#[53,57,54,48,52,54,52,52,55,55,53,51,57,48,54,50,53]⟩,.int .i64 (-24)],.int .i64 3,.int .u8 4] ⟨⟨[],dgcl1_gl⟩,0,dgcl1_tr,[]⟩) = told pk 14 (emK dgcl1_tr []):=by kernel_rfl
theorem dgcl1 (W:World) (hW:∀ g o,(g,o)∈dgcl1_gl→∃ o',W.heap[g]? = some o'∧∀ a x,ldO a o = some x→ldO a o' = some x):Calls Tryz.prog 18 #[.agg #[.bool true,.string ⟨#[53,57,54,48,52,54,52,52,55,55,53,51,57,48,54,50,53]⟩,.int .i64 (-24)],.int .i64 3,.int .u8 4] W fun e W'=>e = .returned (.tuple #[.agg #[.bool true,.string ⟨#[49]⟩,.int .i64 (-3)],.bool false,.int .i64 0])∧Below W.heap.size W W':=
 closed (by kernel_rfl) 3000 _ _ _ _ _ _ dgcl1_run W hW
theorem OneBut.below {p off:Nat} {w W':World} {cs:Array Value} {t:TypeId} {xs:List Value} (ht:t≠83) (hc:NoLimb cs.toList) (hx:NoLimb xs) (h1:xs.all (·.oneCell') = true) (hn:off+xs.length≤cs.size) (h0:w.heap[p]? = some (.cells cs t (0,0))) (h:OneBut p w W') (hp:W'.heap[p]? = some (.cells (setL cs off xs) t (0,0))):Below w.heap.size (evs (sts p off xs) w) W':=by
 obtain ⟨-,g2,g3,g4,g5,-⟩:=sts_ok (w0:=Fr0.but p w) ht (Or.inl rfl) xs off cs w h0 hn hc hx h1 ⟨rfl,rfl,rfl,Nat.le_refl _,fun _ _ _=>rfl⟩
 have g4':OneBut p w (evs (sts p off xs) w):=g4
 refine ⟨h.os.trans g4'.os.symm,h.tape.trans g4'.tape.symm,h.output.trans g4'.output.symm,by rw [g5]; exact h.size,fun k hk=>?_⟩
 by_cases hkp:k = p
 ·subst hkp; rw [hp,g2]
 ·rw [h.block k hk hkp,g3 k hkp]
def pt:List UInt8→Bool→List UInt8→Nat→Bool→Option (List UInt8×Nat×Bool)
 | [],_,o,p,q=>some (o,p,q)
 | c :: r,f,o,p,q=>
  if c.toNat = 101 then some (o,p,q)
  else if c.toNat = 45 then (if f then pt r false o p q else none)
  else if c.toNat = 46 then (if q then none else if o = [] then none else pt r false o p true)
  else if 48≤c.toNat∧c.toNat≤57 then pt r false (o ++ [c]) (if q then p+1 else p) q
  else none
theorem says_self {s:ByteArray} (hd:AllD s s.size) (h0:0 < s.size) (ha:∀ h:0 < s.size,(s[0]'h).toNat≠48) (hb:∀ k,(h:k+1 = s.size)→(s[k]'(by omega)).toNat≠48):Says s (valS s)∧valS s % 10≠0:=by
 obtain ⟨q,hq⟩:∃ q,q+1 = s.size:=⟨s.size - 1,by omega⟩
 have hE:Ends s 0 (q+1):=⟨by omega,by omega,fun j _ h=>by omega,fun j h h2=>by omega,fun _ h=>ha h,fun _ h=>hb q hq⟩
 obtain ⟨n,z,hz,hv,h10,hS⟩:=core_of hd hE (Nat.zero_le _)
 have hz0:z = 0:=by omega
 subst hz0
 have hvn:valS s = n:=by simpa using hv
 rw [hvn]
 have he:s.extract 0 (q+1) = s:=by rw [hq,ByteArray.extract_zero_size]
 rw [he] at hS
 exact ⟨hS,h10⟩
theorem dq_uniq {g:Bool} {s s2:ByteArray} {x x2:Int} (h:DcOk s x) (h2:DcOk s2 x2) (n1:s.size≠0) (n2:s2.size≠0) (e:dq g (valS s) x = dq g (valS s2) x2):s = s2∧x = x2:=by
 obtain ⟨ex,hex⟩:∃ ex,min x x2 = ex:=⟨_,rfl⟩
 obtain ⟨o1,ho1⟩:∃ o:Nat,x = ex+(o:Int):=⟨(x - ex).toNat,by omega⟩
 obtain ⟨o2,ho2⟩:∃ o:Nat,x2 = ex+(o:Int):=⟨(x2 - ex).toNat,by omega⟩
 have k:=dq_ord g g (valS s * 10 ^ o1) (valS s2 * 10 ^ o2) ex
 rw [← dq_up,← dq_up,← ho1,← ho2,ordR_eq e] at k
 have k2:valS s * 10 ^ o1 = valS s2 * 10 ^ o2:=by
  unfold cmpZ dvl at k
  generalize valS s * 10 ^ o1 = A at *
  generalize valS s2 * 10 ^ o2 = B at *
  cases g <;> simp only [Bool.false_eq_true,if_true,if_false] at k <;> split at k <;> (try omega) <;> split at k <;> omega
 obtain ⟨k3,k4⟩:=tens_uniq k2 (dx_low h n1).2 (dx_low h2 n2).2
 obtain ⟨S1,_⟩:=says_self h.ok (by omega) h.fst h.lst
 obtain ⟨S2,_⟩:=says_self h2.ok (by omega) h2.fst h2.lst
 rw [k3] at S1
 exact ⟨says_eq S1 S2,by omega⟩
def capR (I md:Nat) (s:Bool) (r:Nat):Nat:=if r < I then r else if fth md s false 1 then I else I - 1
def rq (s:Bool) (p d:Nat) (hd:0 < d) (hg:Nat.gcd p d = 1):Rat:=⟨Rm.sgn s p,d,by omega,by rw [Nat.Coprime,Rm.sgn_abs]; exact hg⟩
theorem fq_rq {w:World} {s:Bool} {a b:Option Addr} {n k p d:Nat} {hd:0 < d} {hg:Nat.gcd p d = 1} (hs:s = true→0 < p) (h1:Num w a n p) (h2:Num w b k d):Fq w s a n b k (rq s p d hd hg):=by
 refine ⟨(Rm.sgn_neg fun e=>?_).symm,?_,h2⟩
 ·cases s
  ·rfl
  ·have:=hs rfl; omega
 ·show Num w a n (Rm.sgn s p).natAbs
  rw [Rm.sgn_abs]; exact h1
theorem WrQ.lt {F G r:Nat} {s sa:Bool} {va da p d:Nat} (h:WrQ F G s r sa va da) (hl:pv F r * d < p * 2 ^ G):va * d < p * da:=by
 refine Nat.lt_of_mul_lt_mul_right (a:=2 ^ G) ?_
 have a1:va * d * 2 ^ G = pv F r * d * da:=by rw [Nat.mul_right_comm,h.eq]; ac_rfl
 have a2:p * da * 2 ^ G = p * 2 ^ G * da:=Nat.mul_right_comm ..
 rw [a1,a2]
 exact Nat.mul_lt_mul_of_pos_right hl h.hd
theorem WrQ.same {F G r:Nat} {s sa:Bool} {va da p d:Nat} (h:WrQ F G s r sa va da) (hl:pv F r * d = p * 2 ^ G):va * d = p * da:=by
 refine Nat.eq_of_mul_eq_mul_right (Nat.pow_pos (n:=G) (show 0 < 2 by omega)) ?_
 have a1:va * d * 2 ^ G = pv F r * d * da:=by rw [Nat.mul_right_comm,h.eq]; ac_rfl
 have a2:p * da * 2 ^ G = p * 2 ^ G * da:=Nat.mul_right_comm ..
 rw [a1,a2,hl]
theorem rq_q (s:Bool) (p d:Nat) (hd:0 < d) (hg:Nat.gcd p d = 1) (hs:s = true→0 < p):Rm.Q (rq s p d hd hg) s p d:=⟨rfl,rfl,fun e=>by
 cases s
 ·rfl
 ·have:=hs rfl; omega⟩
theorem dg_half:Fm 5 10 32768 31744:=⟨⟨by decide,by decide,by decide,by decide⟩,by decide,by decide⟩
theorem dglit_a:Lit ⟨#[57,57,57,55,53,53,56,53,57,51,55,53]⟩ 12 999755859375:=Lit.mk' rfl (by decide) (by decide) (by decide) rfl
theorem dglit_b:Lit ⟨#[53,57,54,48,52,54,52,52,55,55,53,51,57,48,54,50,53]⟩ 17 59604644775390625:=Lit.mk' rfl (by decide) (by decide) (by decide) rfl
theorem dq_nz (s:Bool) {v:Nat} (x:Int) (hv:v≠0):dq s v x≠0:=by
 rw [dq_mk]
 intro h
 rw [Rat.mkRat_eq_zero (ten_ne _)] at h
 have h1:=congrArg Int.natAbs h
 rw [Rm.sgn_abs] at h1
 exact Nat.mul_ne_zero hv (ten_ne _) h1
theorem dg_known (s:Bool) {r:Nat} (hr:r < 31744) {t:ByteArray} {n v k p:Nat} (ht:Lit t n v) (hn:0 < n) (hn2:n≤100) (hv:v≠0) (hk:k≤100) (hp:pv 10 r = p) (he:p * 10 ^ k = v * 2 ^ 24) (b:Int) (hb:(((if s then 32768 else 0)+r:Nat):Int) = b) (W:World) (hT:Tb W) (htp:Tpw W) :
  Calls Tryz.prog 9 #[.agg #[.int .i64 5,.int .i64 10],.int .u64 b] W fun e W'=>e = .returned (.tuple #[.agg #[.bool s,.string t,.int .i64 (-(k:Int))],.int .i64 0])∧Below W.heap.size W W':=by
 obtain ⟨sa,m,x,i,j,t3,y,hV,hO,hi,hj,hq,hD,hw,h1,h2,h3,hA⟩:=dall_fin (B:=15) (G:=24) dg_half rfl rfl s hr
 have hL:=ht.dc hn (by omega) (y:=-(k:Int)) (by omega) (by omega)
 have hvt:valS t = v:=ht.val
 have hE:dq s (valS t3) y = dq s (valS t) (-(k:Int)):=by
  rw [hw,hvt,dq_mk,dq_mk,Rat.mkRat_eq_iff (ten_ne _) (ten_ne _)]
  have e1:=hq.eq
  rw [hp] at e1
  have e2:m * 2 ^ i * 10 ^ k = v * 2 ^ j:=by
   refine Nat.eq_of_mul_eq_mul_right (Nat.pow_pos (n:=24) (show 0 < 2 by decide)) ?_
   rw [Nat.mul_right_comm,e1,Nat.one_mul,Nat.mul_right_comm,he,Nat.mul_right_comm]
  have e3:(-(j:Int)).toNat = 0:=by omega
  have e4:(-(-(j:Int))).toNat = j:=by omega
  have e5:(-(k:Int)).toNat = 0:=by omega
  have e6:(-(-(k:Int))).toNat = k:=by omega
  rw [e3,e4,e5,e6,Nat.pow_zero,Nat.mul_one,Nat.mul_one,← Rm.sgn_scale,← Rm.sgn_scale]
  congr 1
  rw [show (10:Nat) ^ j = 2 ^ j * 5 ^ j by rw [← Nat.mul_pow],← Nat.mul_assoc,← e2]
  exact Nat.mul_right_comm ..
 have n2:t.size≠0:=by rw [ht.sz]; omega
 have n1:t3.size≠0:=fun h0=>by
  have h4:=dx_empty h0
  rw [h4,dq_zero,hvt] at hE
  have h5:=(dq_nz s (-(k:Int)) hv)
  exact h5 hE.symm
 obtain ⟨rfl,rfl⟩:=dq_uniq hD hL n1 n2 hE
 have:=hA W hT htp
 rw [hb] at this
 exact this
theorem dgalive_any (W:World) (hT:Tb W) (htp:Tpw W):Calls Tryz.prog 7 #[] W fun e W'=>e = .returned (.bool true)∧Below W.heap.size W W':=by
 have H1:=hide fun (W:World) (hT:Tb W) (htp:Tpw W)=>dg_known false (r:=11878) (by decide) dglit_a (k:=13) (p:=1677312) (by decide) (by decide) (by decide) (by decide) (by kernel_rfl) (by kernel_rfl) 11878 (by simp) W hT htp
 have H0:=hide fun (W:World) (hT:Tb W) (htp:Tpw W)=>dg_known true (r:=1) (by decide) dglit_b (k:=24) (p:=1) (by decide) (by decide) (by decide) (by decide) (by kernel_rfl) (by kernel_rfl) 32769 (by simp) W hT htp
 have HR:=hide fun W:World=>dgcl0 W (fun g o h=>absurd h (by simp [dgcl0_gl]))
 have HP:=hide fun W:World=>dgcl1 W (fun g o h=>absurd h (by simp [dgcl1_gl]))
 have H2:=hide fun (W:World) (hT:Tb W) (htp:Tpw W)=>dsome_ok W 5 10 11878 3 0 false false false ⟨#[57,57,57,55,53,53,56,53,57,51,55,53]⟩ ⟨#[49]⟩ (-13) (-1) 0 hT htp H1 HR
 have H3:=hide fun (W:World) (hT:Tb W) (htp:Tpw W)=>dplaces_ok W 5 10 32769 3 4 true true false ⟨#[53,57,54,48,52,54,52,52,55,55,53,51,57,48,54,50,53]⟩ ⟨#[49]⟩ (-24) (-3) 0 hT htp H0 HP
 exact dalive_is W hT htp H1 H2 H3 (hide fun W=>dgcl2 W (fun g o h=>absurd h (by simp [dgcl2_gl]))) (hide fun W=>dgcl3 W (fun g o h=>absurd h (by simp [dgcl3_gl])))
theorem digitsWorth_any (E F:Int) (b:Nat) (w:World) (htp:Tpw w) (hT:Tb w) :
  Calls Tryz.prog 3 #[.agg #[.int .i64 E,.int .i64 F],.int .u64 (b:Int)] w fun e w'=>e = .returned (.bool true)∧Below w.heap.size w w':=by
 have HL:=hide dgalive_any
 rcases value_cases E F b with ⟨er,he,hV⟩|⟨E,F,S,I,s,r,rfl,rfl,h,rfl,hr⟩
 ·have HA:=hide fun (W:World) (hT:Tb W) (_:Tpw W)=>dall_e W E F b er he hT (hide hV)
  exact dworth_e w E F b er he hT htp HL (hide hV) HA (hide fun W hT htp=>dcount_e W E F b er hT htp HA)
 obtain ⟨B,hB⟩:∃ B,B = 2 ^ (E - 1) - 1:=⟨_,rfl⟩
 have hF1:=h.fo.f1
 obtain ⟨G,hG⟩:∃ G:Nat,(G:Int) = (B:Int)+(F:Int) - 1:=⟨B+F - 1,by omega⟩
 obtain ⟨sa,m,x,i,j,t,y,hV,hO,hi,hj,hq,hD,hw,h1,h2,h3,hA⟩:=dall_fin h hB hG s hr
 have HA:=hide hA
 obtain ⟨q,q1,q2⟩:=sign_shift h s (Nat.lt_trans hr h.lt)
 obtain ⟨f,R,S',hQ,_,_,hc⟩:=dx_ratio s (K:=100000) hD (by omega) (by decide)
 have hwq:dq s (valS t) y = rq sa (m * 2 ^ i) (1 * 2 ^ j) hq.hd hq.hg:=by
  have h4:=Rm.Q.rat (rq_q sa (m * 2 ^ i) (1 * 2 ^ j) hq.hd hq.hg hq.h0)
  rw [h4,hw,dq_mk,Rat.mkRat_eq_iff (ten_ne _) (by have:=hq.hd; omega),hq.sg]
  have e3:(-(j:Int)).toNat = 0:=by omega
  have e4:(-(-(j:Int))).toNat = j:=by omega
  rw [e3,e4,Nat.pow_zero,Nat.mul_one,← Rm.sgn_scale,← Rm.sgn_scale]
  congr 1
  rw [show (10:Nat) ^ j = 2 ^ j * 5 ^ j by rw [← Nat.mul_pow],Nat.one_mul,Nat.mul_assoc,Nat.mul_comm (5 ^ j)]
 rw [hwq] at hQ
 have hq9:=rq_q sa (m * 2 ^ i) (1 * 2 ^ j) hq.hd hq.hg hq.h0
 obtain rfl:sa = f:=hq9.neg.symm.trans hQ.neg
 obtain rfl:m * 2 ^ i = R:=hq9.abs.symm.trans hQ.abs
 obtain rfl:1 * 2 ^ j = S':=hq9.den.symm.trans hQ.den
 have HX:=hide fun (W:World) (a:Option Addr) (n c:Nat) (b:Option Addr) (k l:Nat) (a':Option Addr) (n' c':Nat) (b':Option Addr) (k' l':Nat) (g1:Num W a n (m * 2 ^ i)) (g2:Num W b k (1 * 2 ^ j)) (g3:Num W a' n' (m * 2 ^ i)) (g4:Num W b' k' (1 * 2 ^ j))=>by
  have:=same_rat sa sa a b a' b' n k n' k' c l c' l' _ _ W (fq_rq (hd:=hq.hd) (hg:=hq.hg) hq.h0 g1 g2) (fq_rq (hd:=hq.hd) (hg:=hq.hg) hq.h0 g3 g4)
  rw [decide_eq_true rfl] at this
  exact this
 exact dworth_ok w E F _ m _ _ q sa s x y t (by have:=h.fo.e11; omega) (by have:=h.fo.f52; omega) q1 q2 hT htp HL (hide hV) HA (hide fun W hT htp=>dcount_ok W E F _ s t y hT htp HA) (hide fun W A N C g=>ratio_place hO hi hj hq W A N C g) (hide hc) HX (hide fun W=>hD.chk s W)
end Go.Proofs.YteafdlblemdclaaGreatDoor
