/- Of what DigitsNamesRow stands on: DcItoa DcNeaN CloA DcPart DcTextsLaw DbLaw SOrdA RsHalfM DgLaw DgEnLaw2 DgAlive2 DgNaM DgFoLaw DgNaF DgNaW. -/
import Derived.Test.YtplihgoapiiigaaGreatDoorPad
import Derived.Shelf.Strconv.Itoa3
import Derived.Lib.AppendIntMem
import Derived.Test.YtplihgoapiiigaaGreatDoorPbi
import Derived.Test.YtplihgoapiiigaaGreatDoorPaw
import Derived.Test.YtplihgoapiiigaaGreatDoorPba
import Derived.Test.YtplihgoapiiigaaGreatDoorPat
import Derived.Test.YtplihgoapiiigaaGreatDoorPau
import Derived.Test.YtplihgoapiiigaaGreatDoorPaq
import Derived.Test.YtplihgoapiiigaaGreatDoorPaf
import Derived.Test.YtplihgoapiiigaaGreatDoorPaj
import Derived.Test.YtplihgoapiiigaaGreatDoorPai
import Derived.Test.YtplihgoapiiigaaGreatDoorPal
import Derived.Test.YtplihgoapiiigaaGreatDoorPao
import Derived.Test.YtplihgoapiiigaaGreatDoorPag
import Derived.Test.YtplihgoapiiigaaGreatDoorPah
import Derived.Deep.LoopGhost
import Derived.Test.YtplihgoapiiigaaGreatDoorPaa
import Derived.Below
import Derived.LoopN
import Derived.Scope
import Derived.Test.YtplihgoapiiigaaGreatDoorPbh
import Derived.ChangeKeysEq
import Derived.Test.YtplihgoapiiigaaGreatDoorPbb
import Derived.Lib.ItoaLen
import Derived.Test.YtplihgoapiiigaaGreatDoorPbf
import Derived.Test.YtplihgoapiiigaaGreatDoorPbc
import Derived.Test.YtplihgoapiiigaaGreatDoorPbd
import Derived.Test.YtplihgoapiiigaaGreatDoorPbe
import Derived.Test.YtplihgoapiiigaaGreatDoorPak
import Derived.Test.YtplihgoapiiigaaGreatDoorPab
import Derived.Test.YtplihgoapiiigaaGreatDoorPaz
import Derived.Test.YtplihgoapiiigaaGreatDoorPay
import Derived.Test.YtplihgoapiiigaaGreatDoorPbj
import Derived.Test.YtplihgoapiiigaaGreatDoorProg
import Derived.Laws.AppendOwn
import Derived.Laws.Slices
namespace Go.Proofs.YtplihgoapiiigaaGreatDoor
open Go.RowKit
set_option maxHeartbeats 4000000
set_option maxRecDepth 20000
def Tp (w : World) : Prop := Lib.TabIs Tryz.prog w "internal/strconv.uint64pow10" .u64 Lib.pow10Tab
theorem Tp.kept {w w':World} (h:Tp w) (hb:Below w.heap.size w w'):Tp w':=Lib.tabBelow_of_tabIs h w' hb
theorem Lit.dc {s:ByteArray} {n v:Nat} (h:Lit s n v) (hn:0 < n) (hm:n≤65536) {y:Int} (h0:-1073741824≤y) (h1:y≤1073741824):DcOk s y:=
 ⟨by rw [h.sz]; exact hm,h.ok,h0,h1,fun e=>by rw [h.sz] at e; omega,h.fst,cd_of h.ok h.lst⟩
theorem Rnd.apart {s:ByteArray} {g:Bool} {md c Q R:Nat} {up:Bool} (h:Rnd s g md c Q R up) (hc:0 < c) (hmd:md≤4):apart (valS s) ((Q+(if up then 1 else 0)) * 10 ^ c) = rdist c R up∧valS s≠(Q+(if up then 1 else 0)) * 10 ^ c:=by
 obtain ⟨h1,_,h3,h4,_⟩:=h.dist hc hmd
 generalize rdist c R up = D at *
 unfold Go.Proofs.YtplihgoapiiigaaGreatDoor.apart
 cases up
 ·have h5:=h4 rfl
  generalize (Q+(if false = true then 1 else 0)) * 10 ^ c = Y at *
  rw [if_pos (by omega)]
  omega
 ·have h5:=h3 rfl
  generalize (Q+(if true = true then 1 else 0)) * 10 ^ c = Y at *
  rw [if_neg (by omega)]
  omega
inductive Or where
 | ix (k:Nat)
 | reg (n:Nat) (l:List (Nat×List (Nat×Bool)×List Or))
 | ap (c j x m:Nat)
 | sl (j c:Nat)
def pt:List UInt8→Bool→List UInt8→Nat→Bool→Option (List UInt8×Nat×Bool)
 | [],_,o,p,q=>some (o,p,q)
 | c :: r,f,o,p,q=>
  if c.toNat = 101 then some (o,p,q)
  else if c.toNat = 45 then (if f then pt r false o p q else none)
  else if c.toNat = 46 then (if q then none else if o = [] then none else pt r false o p true)
  else if 48≤c.toNat∧c.toNat≤57 then pt r false (o ++ [c]) (if q then p+1 else p) q
  else none
theorem says_self {s:ByteArray} (hd:AllD s s.size) (h0:0 < s.size) (ha:∀ h:0 < s.size,(s[0]'h).toNat≠48) (hb:∀ k,(h:k+1 = s.size)→(s[k]'(by omega)).toNat≠48):Says s (valS s)∧valS s % 10≠0:=by
 obtain ⟨q,hq⟩:∃ q,q+1 = s.size:=⟨s.size - 1,by omega⟩
 have hE:Ends s 0 (q+1):=⟨by omega,by omega,fun j _ h=>by omega,fun j h h2=>by omega,fun _ h=>ha h,fun _ h=>hb q hq⟩
 obtain ⟨n,z,hz,hv,h10,hS⟩:=core_of hd hE (Nat.zero_le _)
 have hz0:z = 0:=by omega
 subst hz0
 have hvn:valS s = n:=by simpa using hv
 rw [hvn]
 have he:s.extract 0 (q+1) = s:=by rw [hq,ByteArray.extract_zero_size]
 rw [he] at hS
 exact ⟨hS,h10⟩
theorem dq_uniq {g:Bool} {s s2:ByteArray} {x x2:Int} (h:DcOk s x) (h2:DcOk s2 x2) (n1:s.size≠0) (n2:s2.size≠0) (e:dq g (valS s) x = dq g (valS s2) x2):s = s2∧x = x2:=by
 obtain ⟨ex,hex⟩:∃ ex,min x x2 = ex:=⟨_,rfl⟩
 obtain ⟨o1,ho1⟩:∃ o:Nat,x = ex+(o:Int):=⟨(x - ex).toNat,by omega⟩
 obtain ⟨o2,ho2⟩:∃ o:Nat,x2 = ex+(o:Int):=⟨(x2 - ex).toNat,by omega⟩
 have k:=dq_ord g g (valS s * 10 ^ o1) (valS s2 * 10 ^ o2) ex
 rw [← dq_up,← dq_up,← ho1,← ho2,ordR_eq e] at k
 have k2:valS s * 10 ^ o1 = valS s2 * 10 ^ o2:=by
  unfold cmpZ dvl at k
  generalize valS s * 10 ^ o1 = A at *
  generalize valS s2 * 10 ^ o2 = B at *
  cases g <;> simp only [Bool.false_eq_true,if_true,if_false] at k <;> split at k <;> (try omega) <;> split at k <;> omega
 obtain ⟨k3,k4⟩:=tens_uniq k2 (dx_low h n1).2 (dx_low h2 n2).2
 obtain ⟨S1,_⟩:=says_self h.ok (by omega) h.fst h.lst
 obtain ⟨S2,_⟩:=says_self h2.ok (by omega) h2.fst h2.lst
 rw [k3] at S1
 exact ⟨says_eq S1 S2,by omega⟩
def capR (I md:Nat) (s:Bool) (r:Nat):Nat:=if r < I then r else if fth md s false 1 then I else I - 1
theorem WrQ.lt {F G r:Nat} {s sa:Bool} {va da p d:Nat} (h:WrQ F G s r sa va da) (hl:pv F r * d < p * 2 ^ G):va * d < p * da:=by
 refine Nat.lt_of_mul_lt_mul_right (a:=2 ^ G) ?_
 have a1:va * d * 2 ^ G = pv F r * d * da:=by rw [Nat.mul_right_comm,h.eq]; ac_rfl
 have a2:p * da * 2 ^ G = p * 2 ^ G * da:=Nat.mul_right_comm ..
 rw [a1,a2]
 exact Nat.mul_lt_mul_of_pos_right hl h.hd
theorem WrQ.same {F G r:Nat} {s sa:Bool} {va da p d:Nat} (h:WrQ F G s r sa va da) (hl:pv F r * d = p * 2 ^ G):va * d = p * da:=by
 refine Nat.eq_of_mul_eq_mul_right (Nat.pow_pos (n:=G) (show 0 < 2 by omega)) ?_
 have a1:va * d * 2 ^ G = pv F r * d * da:=by rw [Nat.mul_right_comm,h.eq]; ac_rfl
 have a2:p * da * 2 ^ G = p * 2 ^ G * da:=Nat.mul_right_comm ..
 rw [a1,a2,hl]
theorem dg_half:Fm 5 10 32768 31744:=⟨⟨by decide,by decide,by decide,by decide⟩,by decide,by decide⟩
theorem dglit_a:Lit ⟨#[57,57,57,55,53,53,56,53,57,51,55,53]⟩ 12 999755859375:=Lit.mk' rfl (by decide) (by decide) (by decide) rfl
theorem dglit_b:Lit ⟨#[53,57,54,48,52,54,52,52,55,55,53,51,57,48,54,50,53]⟩ 17 59604644775390625:=Lit.mk' rfl (by decide) (by decide) (by decide) rfl
theorem dq_nz (s:Bool) {v:Nat} (x:Int) (hv:v≠0):dq s v x≠0:=by
 rw [dq_mk]
 intro h
 rw [Rat.mkRat_eq_zero (ten_ne _)] at h
 have h1:=congrArg Int.natAbs h
 rw [Rm.sgn_abs] at h1
 exact Nat.mul_ne_zero hv (ten_ne _) h1
theorem dg_known (s:Bool) {r:Nat} (hr:r < 31744) {t:ByteArray} {n v k p:Nat} (ht:Lit t n v) (hn:0 < n) (hn2:n≤100) (hv:v≠0) (hk:k≤100) (hp:pv 10 r = p) (he:p * 10 ^ k = v * 2 ^ 24) (b:Int) (hb:(((if s then 32768 else 0)+r:Nat):Int) = b) (W:World) (hT:Tb W) (htp:Tpw W) :
  Calls Tryz.prog 12 #[.agg #[.int .i64 5,.int .i64 10],.int .u64 b] W fun e W'=>e = .returned (.tuple #[.agg #[.bool s,.string t,.int .i64 (-(k:Int))],.int .i64 0])∧Below W.heap.size W W':=by
 obtain ⟨sa,m,x,i,j,t3,y,hV,hO,hi,hj,hq,hD,hw,h1,h2,h3,hA⟩:=dall_fin (B:=15) (G:=24) dg_half rfl rfl s hr
 have hL:=ht.dc hn (by omega) (y:=-(k:Int)) (by omega) (by omega)
 have hvt:valS t = v:=ht.val
 have hE:dq s (valS t3) y = dq s (valS t) (-(k:Int)):=by
  rw [hw,hvt,dq_mk,dq_mk,Rat.mkRat_eq_iff (ten_ne _) (ten_ne _)]
  have e1:=hq.eq
  rw [hp] at e1
  have e2:m * 2 ^ i * 10 ^ k = v * 2 ^ j:=by
   refine Nat.eq_of_mul_eq_mul_right (Nat.pow_pos (n:=24) (show 0 < 2 by decide)) ?_
   rw [Nat.mul_right_comm,e1,Nat.one_mul,Nat.mul_right_comm,he,Nat.mul_right_comm]
  have e3:(-(j:Int)).toNat = 0:=by omega
  have e4:(-(-(j:Int))).toNat = j:=by omega
  have e5:(-(k:Int)).toNat = 0:=by omega
  have e6:(-(-(k:Int))).toNat = k:=by omega
  rw [e3,e4,e5,e6,Nat.pow_zero,Nat.mul_one,Nat.mul_one,← Rm.sgn_scale,← Rm.sgn_scale]
  congr 1
  rw [show (10:Nat) ^ j = 2 ^ j * 5 ^ j by rw [← Nat.mul_pow],← Nat.mul_assoc,← e2]
  exact Nat.mul_right_comm ..
 have n2:t.size≠0:=by rw [ht.sz]; omega
 have n1:t3.size≠0:=fun h0=>by
  have h4:=dx_empty h0
  rw [h4,dq_zero,hvt] at hE
  have h5:=(dq_nz s (-(k:Int)) hv)
  exact h5 hE.symm
 obtain ⟨rfl,rfl⟩:=dq_uniq hD hL n1 n2 hE
 have:=hA W hT htp
 rw [hb] at this
 exact this
theorem least_ten (T:Nat) (h1:1≤T) (h2:T < 18446744073709551616):∃ q,q≤20∧T < 10 ^ q∧∀ j,j < q→10 ^ j≤T:=by
 refine ⟨Lib.nDigits T,Lib.nDigits_le20 T h2,Lib.lt_pow_nDigits T,fun j hj=>?_⟩
 rcases Nat.lt_or_ge T 10 with h9|h9
 ·rw [Lib.nDigits_small h9] at hj
  obtain rfl:j = 0:=by omega
  simpa using h1
 ·obtain ⟨k,hk⟩:∃ k,Lib.nDigits T = k+1:=⟨Lib.nDigits T - 1,by omega⟩
  exact Nat.le_trans (Nat.pow_le_pow_right (by decide) (by omega)) (dg_low k T hk h9)
theorem form_value (E F:Int):(NoFo E F∧∀ W:World,Calls Tryz.prog 15 #[.agg #[.int .i64 E,.int .i64 F]] W fun e W'=>e = .returned (.int .i64 5)∧Below W.heap.size W W') ∨
  ∃ E' F':Nat,E = (E':Int)∧F = (F':Int)∧Fo E' F'∧∀ W:World,Calls Tryz.prog 15 #[.agg #[.int .i64 (E':Int),.int .i64 (F':Int)]] W fun e W'=>e = .returned (.int .i64 0)∧Below W.heap.size W W':=by
 rcases fo_cases5 E F with hb|⟨E',F',rfl,rfl,h0⟩
 ·exact Or.inl ⟨hb,fun W=>dchf_is W E F 5 (hide fun W=>Value_form E F hb 0 W)⟩
 ·refine Or.inr ⟨E',F',rfl,rfl,h0,fun W=>dchf_is W E' F' 0 (hide fun W=>?_)⟩
  have hB:Bt E' F' 0 false 0 0:=⟨Nat.pow_pos (by decide),Nat.pow_pos (by decide),by simp⟩
  exact Value_zero E' F' (2 ^ (E' - 1) - 1) 0 false W h0 (hide rfl) hB
theorem mk_one (g:Bool) (z:Nat) (x:Int) (h1:-1000≤x+(z:Int)) (h2:x+(z:Int)≤1000):MkA g (10 ^ z) x (.tuple #[.agg #[.bool g,.string ⟨#[49]⟩,.int .i64 (x+(z:Int))],.int .i64 0]):=
 Or.inr ⟨⟨#[49]⟩,1,z,(Nat.one_mul _).symm,by decide,says_1,Or.inr ⟨by omega,rfl⟩⟩
theorem alive_form:∀ W:World,Calls Tryz.prog 15 #[.agg #[.int .i64 ((5:Nat):Int),.int .i64 ((10:Nat):Int)]] W fun e W'=>e = .returned (.int .i64 0)∧Below W.heap.size W W':=by
 rcases form_value 5 10 with ⟨hb,_⟩|⟨E,F,h1,h2,_,hC⟩
 ·unfold NoFo at hb; omega
 ·obtain rfl:E = 5:=by omega
  obtain rfl:F = 10:=by omega
  exact hC
theorem alive_enough (W:World):Calls Tryz.prog 8 #[.agg #[.int .i64 5,.int .i64 10]] W fun e W'=>e = .returned (.tuple #[.int .i64 5,.int .i64 0])∧Below W.heap.size W W':=
 den_ok W 5 10 4 2048 (fun j=>10 ^ j) (by decide) rfl (fun j _=>Nat.pow_succ ..) (fun j hj=>by
  have:10 ^ j≤10 ^ 3:=Nat.pow_le_pow_right (by decide) (by omega)
  show 10 ^ j≤2048; omega) (by decide) (by decide) (by decide) (by decide) (hide alive_form)
theorem alive_sure (W:World):Calls Tryz.prog 9 #[.agg #[.int .i64 5,.int .i64 10]] W fun e W'=>e = .returned (.tuple #[.int .i64 3,.int .i64 0])∧Below W.heap.size W W':=
 dsu_ok W 5 10 3 1024 (fun j=>10 ^ (j+1)) rfl (fun j _=>Nat.pow_succ ..) (fun j hj=>by
  have:10 ^ (j+1)≤10 ^ 3:=Nat.pow_le_pow_right (by decide) (by omega)
  show 10 ^ (j+1) < 1024; omega) (by decide) (by decide) (by decide) (by decide) (hide alive_form)
theorem alive_round (W:World):Calls Tryz.prog 14 #[.agg #[.bool false,.string ⟨#[57,57,57,55,53,53,56,53,57,51,55,53]⟩,.int .i64 (-13)],.int .i64 3,.int .u8 0] W fun e W'=>e = .returned (.tuple #[.agg #[.bool false,.string ⟨#[49]⟩,.int .i64 (-1)],.bool false,.int .i64 0])∧Below W.heap.size W W':=by
 have hD:=dglit_a.dc (by decide) (by decide) (y:=-13) (by decide) (by decide)
 rcases round_num false _ (-13) 3 0 hD (by decide) (by decide) (by decide) (hD.chk false) with ⟨h,_⟩|⟨c,Q,R,up,g2,s2,x2,e2,k1,k2,k3,k4,k5,hc⟩
 ·rw [dglit_a.sz] at h; omega
 ·rw [dglit_a.sz] at k1
  obtain rfl:c = 9:=by omega
  have hv:=k3.val
  have hl:=k3.lt
  rw [dglit_a.val] at hv
  have hQ:Q = 999∧R = 755859375:=by
   have e9:(10:Nat) ^ 9 = 1000000000:=by decide
   rw [e9] at hv hl; omega
  obtain ⟨rfl,rfl⟩:=hQ
  have hu:=k3.up
  rw [show cmpZ ((755859375:Nat):Int) ((5 * 10 ^ (9 - 1):Nat):Int) = 1 by decide] at hu
  obtain rfl:up = true:=by rw [hu]; decide
  have:=k5.uniq (mk_one false 3 (-13+((9:Nat):Int)) (by decide) (by decide))
  simp only [Value.tuple.injEq,Array.mk.injEq,List.cons.injEq,Value.agg.injEq,Value.bool.injEq,Value.string.injEq,Value.int.injEq,and_true,true_and] at this
  obtain ⟨⟨rfl,rfl,rfl⟩,rfl⟩:=this
  exact hc W
theorem alive_places (W:World):Calls Tryz.prog 13 #[.agg #[.bool true,.string ⟨#[53,57,54,48,52,54,52,52,55,55,53,51,57,48,54,50,53]⟩,.int .i64 (-24)],.int .i64 3,.int .u8 4] W fun e W'=>e = .returned (.tuple #[.agg #[.bool true,.string ⟨#[49]⟩,.int .i64 (-3)],.bool false,.int .i64 0])∧Below W.heap.size W W':=by
 have hD:=dglit_b.dc (by decide) (by decide) (y:=-24) (by decide) (by decide)
 rcases places_num true _ (-24) 3 4 hD (by decide) (by decide) (hD.chk true) with ⟨h,_⟩|⟨c,Q,R,up,g2,s2,x2,e2,k1,k2,k3,k4,k5,hc⟩
 ·omega
 ·obtain rfl:c = 21:=by omega
  rw [dglit_b.sz] at k4
  obtain rfl:Q = 0:=by
   have e0:(10:Nat) ^ (17 - 21) = 1:=by decide
   rw [e0] at k4; omega
  have hu:=k3.up
  obtain rfl:up = true:=by rw [hu]; rfl
  have:=k5.uniq (mk_one true 0 (-24+((21:Nat):Int)) (by decide) (by decide))
  simp only [Value.tuple.injEq,Array.mk.injEq,List.cons.injEq,Value.agg.injEq,Value.bool.injEq,Value.string.injEq,Value.int.injEq,and_true,true_and] at this
  obtain ⟨⟨rfl,rfl,rfl⟩,rfl⟩:=this
  exact hc W
theorem dgalive2_any (W:World) (hT:Tb W) (htp:Tpw W):Calls Tryz.prog 4 #[] W fun e W'=>e = .returned (.bool true)∧Below W.heap.size W W':=by
 have H1:=hide fun (W:World) (hT:Tb W) (htp:Tpw W)=>dg_known false (r:=11878) (by decide) dglit_a (k:=13) (p:=1677312) (by decide) (by decide) (by decide) (by decide) (by kernel_rfl) (by kernel_rfl) 11878 (by simp) W hT htp
 have H0:=hide fun (W:World) (hT:Tb W) (htp:Tpw W)=>dg_known true (r:=1) (by decide) dglit_b (k:=24) (p:=1) (by decide) (by decide) (by decide) (by decide) (by kernel_rfl) (by kernel_rfl) 32769 (by simp) W hT htp
 have H2:=hide fun (W:World) (hT:Tb W) (htp:Tpw W)=>dsome_ok W 5 10 11878 3 0 false false false ⟨#[57,57,57,55,53,53,56,53,57,51,55,53]⟩ ⟨#[49]⟩ (-13) (-1) 0 hT htp H1 (hide alive_round)
 have H3:=hide fun (W:World) (hT:Tb W) (htp:Tpw W)=>dplaces_ok W 5 10 32769 3 4 true true false ⟨#[53,57,54,48,52,54,52,52,55,55,53,51,57,48,54,50,53]⟩ ⟨#[49]⟩ (-24) (-3) 0 hT htp H0 (hide alive_places)
 exact dalive_is W hT htp H1 H2 H3 (hide alive_enough) (hide alive_sure)
theorem dq_ten {A B:Nat} {x y:Int} (hA:A % 10≠0) (hB:B % 10≠0) (e:dq false A x = dq false B y):A = B∧x = y:=by
 obtain ⟨ex,hex⟩:∃ ex,min x y = ex:=⟨_,rfl⟩
 obtain ⟨o1,ho1⟩:∃ o:Nat,x = ex+(o:Int):=⟨(x - ex).toNat,by omega⟩
 obtain ⟨o2,ho2⟩:∃ o:Nat,y = ex+(o:Int):=⟨(y - ex).toNat,by omega⟩
 have k:=dq_ord false false (A * 10 ^ o1) (B * 10 ^ o2) ex
 rw [← dq_up,← dq_up,← ho1,← ho2,ordR_eq e] at k
 have k2:A * 10 ^ o1 = B * 10 ^ o2:=by
  unfold cmpZ dvl at k
  generalize A * 10 ^ o1 = a at *
  generalize B * 10 ^ o2 = b at *
  simp only [Bool.false_eq_true,if_false] at k
  split at k
  ·omega
  ·split at k <;> omega
 obtain ⟨k3,k4⟩:=tens_uniq k2 hA hB
 exact ⟨k3,by omega⟩
theorem five_odd (n:Nat):5 ^ n % 2 = 1:=by
 induction n with
 | zero=>rfl
 | succ n ih=>rw [Nat.pow_succ]; omega
theorem mul_odd {a b:Nat} (ha:a % 2 = 1) (hb:b % 2 = 1):a * b % 2 = 1:=by rw [Nat.mul_mod,ha,hb]
theorem sub_odd {G:Nat} (hG1:G = 1074) (r:Nat) (hr:r < 2 ^ 52) (ho:r % 2 = 1):∃ t:ByteArray,DcOk t (-(G:Int))∧valS t = r * 5 ^ G∧t.size≠0 ∧
  ∀ W:World,Tb W→Tpw W→Calls Tryz.prog 12 #[.agg #[.int .i64 11,.int .i64 52],.int .u64 (r:Int)] W fun e W'=>e = .returned (.tuple #[.agg #[.bool false,.string t,.int .i64 (-(G:Int))],.int .i64 0])∧Below W.heap.size W W':=by
 have h:Fm 11 52 (2 ^ (52+11)) ((2 ^ 11 - 1) * 2 ^ 52):=⟨⟨by decide,by decide,by decide,by decide⟩,rfl,rfl⟩
 obtain ⟨sa,m,x,i,j,t,y,hV,hO,hi,hj,hq,hD,hw,h1,h2,h3,hA⟩:=dall_fin (G:=G) h rfl (by rw [hG1]; rfl) false (r:=r) (by omega)
 have e1:=hq.eq
 have hp:pv 52 r = r:=if_pos hr
 rw [hp] at e1
 generalize m * 2 ^ i = M at *
 obtain ⟨d,rfl⟩:∃ d,G = j+d:=⟨G - j,by omega⟩
 have hj0:0 < 2 ^ j:=Nat.pow_pos (by decide)
 have e2:M * 2 ^ d = r:=by
  rw [Nat.pow_add] at e1
  refine Nat.eq_of_mul_eq_mul_right hj0 ?_
  grind
 have hd:d = 0:=by
  rcases d with _|d
  ·rfl
  ·exfalso
   rw [Nat.pow_succ] at e2
   have:M * (2 ^ d * 2) = 2 * (M * 2 ^ d):=by grind
   omega
 subst hd
 rw [Nat.pow_zero,Nat.mul_one] at e2
 subst e2
 have hN2:=mul_odd ho (five_odd j)
 have hN:(M * 5 ^ j) % 10≠0:=by omega
 have h0:t.size≠0:=fun h9=>by
  have h8:=valS_lt t 0 hD.ok
  rw [h9] at h8
  have h7:valS t = 0:=by
   rw [Nat.pow_zero,Nat.mul_one] at h8
   have:(10:Nat) ^ (0+0) = 1:=rfl
   omega
  rw [h7,dq_zero] at hw
  exact dq_nz false (-(j:Int)) (v:=M * 5 ^ j) (by omega) hw.symm
 obtain ⟨k1,k2⟩:=dq_ten (dx_low hD h0).2 hN hw
 subst k2
 refine ⟨t,hD,k1,h0,fun W hT htp=>?_⟩
 have:=hA W hT htp
 simpa using this
theorem dc_size {t:ByteArray} {y:Int} (hD:DcOk t y) (h0:t.size≠0) {n v:Nat} (hv:valS t = v) (h1:10 ^ n≤v) (h2:v < 10 ^ (n+1)):t.size = n+1:=by
 have k1:=(dx_low hD h0).1
 have k2:=valS_lt t 0 hD.ok
 rw [Nat.pow_zero,Nat.mul_one,Nat.add_zero] at k2
 rw [hv] at k1 k2
 have k3:=(Nat.pow_lt_pow_iff_right (a:=10) (by decide)).1 (Nat.lt_of_le_of_lt k1 h2)
 have k4:=(Nat.pow_lt_pow_iff_right (a:=10) (by decide)).1 (Nat.lt_of_le_of_lt h1 k2)
 omega
theorem count_767 {G:Nat} (hG1:G = 1074) {t:ByteArray} {y:Int} (hD:DcOk t y) (h0:t.size≠0) (hv:valS t = 4503599627370495 * 5 ^ G):t.size = 767:=by
 subst hG1
 exact dc_size hD h0 (n:=766) hv (Nat.le_of_ble_eq_true (by kernel_rfl)) (Nat.le_of_ble_eq_true (by kernel_rfl))
theorem dfo_five:∀ F,F < 53→2 ^ F % 5≠0:=by decide
def FormSays (E F n m:Int):Prop:=
 (∀ W:World,Calls Tryz.prog 8 #[.agg #[.int .i64 E,.int .i64 F]] W fun e W'=>e = .returned (.tuple #[.int .i64 n,.int .i64 0])∧Below W.heap.size W W') ∧
 (∀ W:World,Calls Tryz.prog 9 #[.agg #[.int .i64 E,.int .i64 F]] W fun e W'=>e = .returned (.tuple #[.int .i64 m,.int .i64 0])∧Below W.heap.size W W') ∧
 (∀ W:World,Calls Tryz.prog 10 #[.agg #[.int .i64 E,.int .i64 F]] W fun e W'=>e = .returned (.tuple #[.int .i64 n,.int .i64 0])∧Below W.heap.size W W') ∧
 (∀ W:World,Calls Tryz.prog 11 #[.agg #[.int .i64 E,.int .i64 F]] W fun e W'=>e = .returned (.tuple #[.int .i64 m,.int .i64 0])∧Below W.heap.size W W')
theorem forms_at (F:Nat) (hF1:1≤F) (hF:F≤52):∃ n m:Int,∀ E:Nat,2≤E→E≤11→FormSays (E:Int) (F:Int) n m:=by
 have hT:2 ^ (F+1)≤2 ^ 53:=Nat.pow_le_pow_right (by decide) (by omega)
 have hT1:1≤2 ^ (F+1):=Nat.pow_pos (by decide)
 have hU:2 ^ F≤2 ^ 52:=Nat.pow_le_pow_right (by decide) hF
 have hU1:2 ^ 1≤2 ^ F:=Nat.pow_le_pow_right (by decide) hF1
 obtain ⟨q,hq,a1,a2⟩:=least_ten (2 ^ (F+1)) hT1 (by omega)
 obtain ⟨q2,hq2,b1,b2⟩:=least_ten (2 ^ F) (by omega) (by omega)
 have hq1:1≤q2:=by
  rcases Nat.eq_zero_or_pos q2 with rfl|h
  ·rw [Nat.pow_zero] at b1; omega
  ·exact h
 obtain ⟨n,rfl⟩:∃ n,q2 = n+1:=⟨q2 - 1,by omega⟩
 have hlt:∀ j,j < n→10 ^ (j+1) < 2 ^ F:=fun j hj=>by
  have h1:=b2 (j+1) (by omega)
  have h2:=dfo_five F (by omega)
  have h3:10 ^ (j+1) % 5 = 0:=by rw [Nat.pow_succ]; omega
  generalize 10 ^ (j+1) = x at *
  generalize 2 ^ F = y at *
  have:x≠y:=by rintro rfl; exact h2 h3
  omega
 refine ⟨((q - 0:Nat):Int)+1,((n - 0:Nat):Int),fun E hE2 hE11=>?_⟩
 have hC:∀ W:World,Calls Tryz.prog 15 #[.agg #[.int .i64 (E:Int),.int .i64 (F:Int)]] W fun e W'=>e = .returned (.int .i64 0)∧Below W.heap.size W W':=by
  rcases form_value (E:Int) (F:Int) with ⟨hb,_⟩|⟨E',F',e1,e2,h0,hC⟩
  ·unfold NoFo at hb; omega
  ·rw [e1,e2]; exact hC
 have hf:=hide fun W:World=>by
  have:=rform_any (E:Int) (F:Int) W
  rwa [decide_eq_true (by omega)] at this
 have G1:=hide fun W:World=>den_ok W E F q (2 ^ (F+1)) (fun j=>10 ^ j) hF rfl (fun j _=>Nat.pow_succ ..) a2 a1 (by omega) (by omega) (by
  rw [show min ((F:Int)+1).toNat 64 = F+1 by omega,Int.one_mul,IntKind.wrap_u64]
  have e1:((2:Int) ^ (F+1)) = ((2 ^ (F+1):Nat):Int):=by simp
  rw [e1]
  omega) (hide hC)
 have G2:=hide fun W:World=>dsu_ok W E F n (2 ^ F) (fun j=>10 ^ (j+1)) rfl (fun j _=>Nat.pow_succ ..) hlt (Nat.le_of_lt b1) (by omega) (by omega) (by
  rw [show min (F:Int).toNat 64 = F by omega,Int.one_mul,IntKind.wrap_u64]
  have e1:((2:Int) ^ F) = ((2 ^ F:Nat):Int):=by simp
  rw [e1]
  omega) (hide hC)
 have G3:=hide fun W:World=>ren_ok W E F q hf hF (by omega) (hide fun W j hj=>by
  have:=rabove W j (F+1) (by omega) (by omega)
  rwa [decide_eq_false (by have:=a2 j hj; omega)] at this) (hide fun W=>by
  have:=rabove W q (F+1) (by omega) (by omega)
  rwa [decide_eq_true a1] at this)
 have G4:=hide fun W:World=>rsu_ok W E F n hf hF (by omega) (hide fun W j hj=>by
  have:=rabove W (j+1) F (by omega) (by omega)
  rwa [decide_eq_false (by have:=hlt j hj; omega)] at this) (hide fun W=>by
  have:=rabove W (n+1) F (by omega) (by omega)
  rwa [decide_eq_true b1] at this)
 exact ⟨unhide G1,unhide G2,unhide G3,unhide G4⟩
theorem forms_fn:∃ en su:Int→Int,∀ E F:Int,2≤E→E≤11→1≤F→F≤52→FormSays E F (en F) (su F):=by
 have h:∀ F:Int,∃ p:Int×Int,1≤F→F≤52→∀ E:Int,2≤E→E≤11→FormSays E F p.1 p.2:=fun F=>by
  by_cases h1:1≤F∧F≤52
  ·obtain ⟨F,rfl⟩:∃ k:Nat,F = (k:Int):=⟨F.toNat,by omega⟩
   obtain ⟨n,m,k⟩:=forms_at F (by omega) (by omega)
   refine ⟨(n,m),fun _ _ E a b=>?_⟩
   obtain ⟨E,rfl⟩:∃ k:Nat,E = (k:Int):=⟨E.toNat,by omega⟩
   exact k E (by omega) (by omega)
  ·exact ⟨(0,0),fun a b=>absurd ⟨a,b⟩ h1⟩
 exact ⟨fun F=>(Classical.choose (h F)).1,fun F=>(Classical.choose (h F)).2,fun E F a b c d=>Classical.choose_spec (h F) c d E a b⟩
theorem dnal (w:World) (en su:Int→Int) (s1:ByteArray) (ht:Tb w) (htp:Tpw w) (HL:Hid (∀ W:World,Tb W→Tpw W→Calls Tryz.prog 4 #[] W fun e W'=>e = .returned (.bool true)∧Below W.heap.size W W')) (HC:Hid (∀ W:World,Tb W→Tpw W→Calls Tryz.prog 5 #[.agg #[.int .i64 11,.int .i64 52],.int .u64 4503599627370495] W fun e W'=>e = .returned (.tuple #[.int .i64 767,.int .i64 0])∧Below W.heap.size W W')) (HP:Hid (∀ W:World,Tb W→Tpw W→Calls Tryz.prog 6 #[.agg #[.int .i64 11,.int .i64 52],.int .u64 1,.int .i64 2000,.int .u8 0] W fun e W'=>e = .returned (.tuple #[.agg #[.bool false,.string s1,.int .i64 (-1074)],.bool true,.int .i64 0])∧Below W.heap.size W W')) (HQ:Hid (∀ W:World,Tb W→Tpw W→Calls Tryz.prog 6 #[.agg #[.int .i64 11,.int .i64 52],.int .u64 1,.int .i64 2001,.int .u8 9] W fun e W'=>e = .returned (.tuple #[.agg #[.bool false,.string ⟨#[]⟩,.int .i64 0],.bool false,.int .i64 101])∧Below W.heap.size W W')) (HR:Hid (∀ W:World,Tb W→Tpw W→Calls Tryz.prog 7 #[.agg #[.int .i64 11,.int .i64 52],.int .u64 1,.int .i64 2001,.int .u8 9] W fun e W'=>e = .returned (.tuple #[.agg #[.bool false,.string ⟨#[]⟩,.int .i64 0],.bool false,.int .i64 101])∧Below W.heap.size W W')) (HS:Hid (∀ W:World,Tb W→Tpw W→Calls Tryz.prog 7 #[.agg #[.int .i64 11,.int .i64 52],.int .u64 1,.int .i64 0,.int .u8 9] W fun e W'=>e = .returned (.tuple #[.agg #[.bool false,.string ⟨#[]⟩,.int .i64 0],.bool false,.int .i64 101])∧Below W.heap.size W W')) (HF:Hid (∀ E F:Int,2≤E→E≤11→1≤F→F≤52→FormSays E F (en F) (su F)))  :
  Calls Tryz.prog 3 #[] w fun en w'=>en = .returned (.bool true)∧Below w.heap.size w w':=by
 obtain ⟨k,hkz⟩:∃ k,k = 10:=⟨_,rfl⟩
 have hkn:k≤10:=by omega
 refine calls_sym Tryz.func3 rfl (by kernel_rfl) fun T hK=>?_
 replace hK:Kn T _ []:=hK
 have hS:=Fb.begin w
 have hG:GsAt [] w:=trivial
 refine wq hS hG hK (fun p1=>[.v 0 (.bool false)]) (fun p1=>[(0,.bool false)]) (fun p1=>?_) (fun p1 W1 T hF hJ=>?_)
 ·refine okv ?_
  exact ok_nil
 replace hS:=SymF.fc hS hF [] []
 replace hG:=hF.gx
 clear hF hK
 have hK:=hJ
 clear hJ
 refine wq hS hG hK (fun p2=>[.c (some 28) (cV (.bool true)),.v 1 (.bool true)]) (fun p2=>[(0,.bool false),(1,.bool true)]) (fun p2=>?_) (fun p2 W2 T hF hJ=>?_)
 ·refine okc (fun W cx=>as_v (unhide HL _ (ht.kept cx.fr) (htp.kept cx.fr))) ?_
  refine okv ?_
  exact ok_nil
 replace hS:=SymF.fd hS hF
 replace hG:=hF.gx
 clear hF hK
 have hK:=hJ
 clear hJ
 refine wq hS hG hK (fun p3=>[.v 29 (.agg #[.int .i64 11,.int .i64 52]),.n 2 #[.int .i64 0,.int .i64 0] 24,.p 1001 0 [.int .i64 11,.int .i64 52]]) (fun p3=>[(0,.bool false),(1,.bool true),(2,pT (p3 1).N 0)]) (fun p3=>?_) (fun p3 W3 T hF hJ=>?_)
 ·refine okv ?_
  refine okn ?_
  refine okp ?_
  exact ok_nil
 replace hS:=SymF.fc hS hF [1001] [⟨(p3 1).N,#[.int .i64 11,.int .i64 52],24,true⟩]
 replace hG:=hF.gx
 clear hF hK
 have hK:=hJ
 clear hJ
 refine wq hS hG hK (fun p4=>[.l 31 (.agg #[.int .i64 11,.int .i64 52]) 0 0,.c (some 32) (cV (.tuple #[.int .i64 767,.int .i64 0])),.v 30 (.tuple #[.int .i64 767,.int .i64 0]),.v 33 (.int .i64 767),.v 34 (.int .i64 0),.v 3 (.int .i64 767),.v 4 (.int .i64 0)]) (fun p4=>[(0,.bool false),(1,.bool true),(2,pT (p3 1).N 0),(3,.int .i64 767),(4,.int .i64 0)]) (fun p4=>?_) (fun p4 W4 T hF hJ=>?_)
 ·refine okl ?_
  refine okc (fun W cx=>as_v (unhide HC _ (ht.kept cx.fr) (htp.kept cx.fr))) ?_
  iterate 5 refine okv ?_
  exact ok_nil
 replace hS:=SymF.fd hS hF
 replace hG:=hF.gx
 clear hF hK
 have hK:=hJ
 clear hJ
 refine wq hS hG hK (fun p5=>[.l 36 (.agg #[.int .i64 11,.int .i64 52]) 0 0,.c (some 37) (cV (.tuple #[.agg #[.bool false,.string s1,.int .i64 (-1074)],.bool true,.int .i64 0])),.v 35 (.tuple #[.agg #[.bool false,.string s1,.int .i64 (-1074)],.bool true,.int .i64 0]),.v 38 (.agg #[.bool false,.string s1,.int .i64 (-1074)]),.v 39 (.bool true),.v 40 (.int .i64 0),.n 5 #[.bool false,.string ⟨#[]⟩,.int .i64 0] 30,.p 1006 0 [.bool false,.string s1,.int .i64 (-1074)],.v 6 (.bool true),.v 7 (.int .i64 0)]) (fun p5=>[(0,.bool false),(1,.bool true),(2,pT (p3 1).N 0),(3,.int .i64 767),(4,.int .i64 0),(5,pT (p5 6).N 0),(6,.bool true),(7,.int .i64 0)]) (fun p5=>?_) (fun p5 W5 T hF hJ=>?_)
 ·refine okl ?_
  refine okc (fun W cx=>as_v (unhide HP _ (ht.kept cx.fr) (htp.kept cx.fr))) ?_
  iterate 4 refine okv ?_
  refine okn ?_
  refine okp ?_
  iterate 2 refine okv ?_
  exact ok_nil
 replace hS:=SymF.fc hS hF [0,1006] [⟨(p3 1).N,#[.int .i64 11,.int .i64 52],24,true⟩,⟨(p5 6).N,#[.bool false,.string s1,.int .i64 (-1074)],30,true⟩]
 replace hG:=hF.gx
 clear hF hK
 have hK:=hJ
 clear hJ
 refine wq hS hG hK (fun p6=>[.l 42 (.agg #[.int .i64 11,.int .i64 52]) 0 0,.c (some 43) (cV (.tuple #[.agg #[.bool false,.string ⟨#[]⟩,.int .i64 0],.bool false,.int .i64 101])),.v 41 (.tuple #[.agg #[.bool false,.string ⟨#[]⟩,.int .i64 0],.bool false,.int .i64 101]),.v 44 (.agg #[.bool false,.string ⟨#[]⟩,.int .i64 0]),.v 45 (.bool false),.v 46 (.int .i64 101),.n 8 #[.bool false,.string ⟨#[]⟩,.int .i64 0] 30,.p 1006 0 [.bool false,.string ⟨#[]⟩,.int .i64 0],.v 9 (.bool false),.v 10 (.int .i64 101)]) (fun p6=>[(0,.bool false),(1,.bool true),(2,pT (p3 1).N 0),(3,.int .i64 767),(4,.int .i64 0),(5,pT (p5 6).N 0),(6,.bool true),(7,.int .i64 0),(10,.int .i64 101)]) (fun p6=>?_) (fun p6 W6 T hF hJ=>?_)
 ·refine okl ?_
  refine okc (fun W cx=>as_v (unhide HQ _ (ht.kept cx.fr) (htp.kept cx.fr))) ?_
  iterate 4 refine okv ?_
  refine okn ?_
  refine okp ?_
  iterate 2 refine okv ?_
  exact ok_nil
 replace hS:=SymF.fd hS hF
 replace hG:=hF.gx
 clear hF hK
 have hK:=hJ
 clear hJ
 refine wq hS hG hK (fun p7=>[.l 48 (.agg #[.int .i64 11,.int .i64 52]) 0 0,.c (some 49) (cV (.tuple #[.agg #[.bool false,.string ⟨#[]⟩,.int .i64 0],.bool false,.int .i64 101])),.v 47 (.tuple #[.agg #[.bool false,.string ⟨#[]⟩,.int .i64 0],.bool false,.int .i64 101]),.v 50 (.agg #[.bool false,.string ⟨#[]⟩,.int .i64 0]),.v 51 (.bool false),.v 52 (.int .i64 101),.n 11 #[.bool false,.string ⟨#[]⟩,.int .i64 0] 30,.p 1006 0 [.bool false,.string ⟨#[]⟩,.int .i64 0],.v 12 (.bool false),.v 13 (.int .i64 101)]) (fun p7=>[(0,.bool false),(1,.bool true),(2,pT (p3 1).N 0),(3,.int .i64 767),(4,.int .i64 0),(5,pT (p5 6).N 0),(6,.bool true),(7,.int .i64 0),(10,.int .i64 101),(13,.int .i64 101)]) (fun p7=>?_) (fun p7 W7 T hF hJ=>?_)
 ·refine okl ?_
  refine okc (fun W cx=>as_v (unhide HR _ (ht.kept cx.fr) (htp.kept cx.fr))) ?_
  iterate 4 refine okv ?_
  refine okn ?_
  refine okp ?_
  iterate 2 refine okv ?_
  exact ok_nil
 replace hS:=SymF.fd hS hF
 replace hG:=hF.gx
 clear hF hK
 have hK:=hJ
 clear hJ
 refine wq hS hG hK (fun p8=>[.l 54 (.agg #[.int .i64 11,.int .i64 52]) 0 0,.c (some 55) (cV (.tuple #[.agg #[.bool false,.string ⟨#[]⟩,.int .i64 0],.bool false,.int .i64 101])),.v 53 (.tuple #[.agg #[.bool false,.string ⟨#[]⟩,.int .i64 0],.bool false,.int .i64 101]),.v 56 (.agg #[.bool false,.string ⟨#[]⟩,.int .i64 0]),.v 57 (.bool false),.v 58 (.int .i64 101),.n 14 #[.bool false,.string ⟨#[]⟩,.int .i64 0] 30,.p 1006 0 [.bool false,.string ⟨#[]⟩,.int .i64 0],.v 15 (.bool false),.v 16 (.int .i64 101)]) (fun p8=>[(0,.bool false),(1,.bool true),(3,.int .i64 767),(4,.int .i64 0),(5,pT (p5 6).N 0),(6,.bool true),(7,.int .i64 0),(10,.int .i64 101),(13,.int .i64 101),(16,.int .i64 101)]) (fun p8=>?_) (fun p8 W8 T hF hJ=>?_)
 ·refine okl ?_
  refine okc (fun W cx=>as_v (unhide HS _ (ht.kept cx.fr) (htp.kept cx.fr))) ?_
  iterate 4 refine okv ?_
  refine okn ?_
  refine okp ?_
  iterate 2 refine okv ?_
  exact ok_nil
 replace hS:=SymF.fc hS hF [1] [⟨(p5 6).N,#[.bool false,.string s1,.int .i64 (-1074)],30,true⟩]
 replace hG:=hF.gx
 clear hF hK
 have hK:=hJ
 clear hJ
 refine wp_seq ?_
 refine wq hS hG hK (fun p9=>[.v 59 (.int .i64 0),.v 60 (.bool false),.v 61 (.bool false),.v 62 (.int .i64 767),.v 63 (.bool false),.v 64 (.bool false),.v 65 (.bool false),.v 66 (.int .i64 0),.v 67 (.bool false),.v 68 (.bool false),.v 69 (.bool false),.v 70 (.bool true),.v 71 (.bool false),.v 72 (.bool false),.v 73 (.bool false),.v 74 (pT (p5 6).N 2),.l 75 (.int .i64 (-1074)) 0 2,.v 76 (.bool false),.v 77 (.bool false),.v 78 (.bool false),.v 79 (.int .i64 101),.v 80 (.bool false),.v 81 (.bool false),.v 82 (.bool false),.v 83 (.int .i64 101),.v 84 (.bool false),.v 85 (.bool false),.v 86 (.bool false),.v 87 (.int .i64 101),.v 88 (.bool false),.v 89 (.bool false)]) (fun p9=>[(0,.bool false),(1,.bool true),(89,.bool false)]) (fun p9=>?_) (fun p9 W9 T hF hJ=>?_)
 ·iterate 16 refine okv ?_
  refine okl ?_
  iterate 14 refine okv ?_
  exact ok_nil
 replace hS:=SymF.fc hS hF [] []
 replace hG:=hF.gx
 clear hF hK
 have hK:=hJ
 clear hJ
 refine wp_cond_false (hK.ew 89) (wp_skip ?_)
 refine then_n (wp_seq ?_)
 refine wq hS hG hK (fun p10=>[.v 17 (.int .i64 2)]) (fun p10=>[(0,.bool false),(1,.bool true),(17,.int .i64 2),(89,.bool false)]) (fun p10=>?_) (fun p10 W10 T hF hJ=>?_)
 ·refine okv ?_
  exact ok_nil
 replace hS:=SymF.fd hS hF
 replace hG:=hF.gx
 clear hF hK
 have hK:=hJ
 clear hJ
 have z10:=hS.fr.size
 refine wp_block ?_
 replace hK:Kn T _ [(1,.bool true),(17,.int .i64 2)]:=kn_out (ds:=[]) hK rfl rfl _ (by kernel_rfl) (by kernel_rfl)
 have h17:Value.int .i64 2 = .int .i64 (12 - ((k:Nat):Int)):=by rw [hkz]; rfl
 rw [h17] at hK
 clear h17 hkz
 refine wp_loop_rounds (k+1) ?_
 clear z10
 induction k generalizing T W10 with
 | succ k ih=>
  have z10:=hS.fr.size
  refine rounds_s (wp_seq ?_)
  refine wq hS hG hK (fun p11=>[.v 90 (.int .i64 (12 - (((k+1):Nat):Int))),.v 91 (.bool true)]) (fun p11=>[(1,.bool true),(17,.int .i64 (12 - (((k+1):Nat):Int))),(91,.bool true)]) (fun p11=>?_) (fun p11 W11 T hF hJ=>?_)
  ·refine okv ?_
   refine okvb (decide_eq_true (show (12 - (((k+1):Nat):Int))≤11 by omega)) ?_
   exact ok_nil
  replace hS:=SymF.fc hS hF [] []
  replace hG:=hF.gx
  clear hF hK
  have hK:=hJ
  clear hJ
  refine wp_cond_true (hK.ew 91) (wp_skip ?_)
  refine then_n (wp_seq (wp_block ?_))
  refine wq hS hG hK (fun p12=>[.v 18 (.int .i64 1)]) (fun p12=>[(1,.bool true),(17,.int .i64 (12 - (((k+1):Nat):Int))),(18,.int .i64 1),(91,.bool true)]) (fun p12=>?_) (fun p12 W12 T hF hJ=>?_)
  ·refine okv ?_
   exact ok_nil
  replace hS:=SymF.fd hS hF
  replace hG:=hF.gx
  clear hF hK
  have hK:=hJ
  clear hJ
  have z12:=hS.fr.size
  refine wp_block ?_
  replace hK:Kn T _ [(1,.bool true),(17,.int .i64 (12 - (((k+1):Nat):Int))),(18,.int .i64 1)]:=kn_out (ds:=[]) hK rfl rfl _ (by kernel_rfl) (by kernel_rfl)
  obtain ⟨k2,hkz2⟩:∃ k2,k2 = 52:=⟨_,rfl⟩
  have hkn2:k2≤52:=by omega
  have h18:Value.int .i64 1 = .int .i64 (53 - ((k2:Nat):Int)):=by rw [hkz2]; rfl
  rw [h18] at hK
  clear h18 hkz2
  refine wp_loop_rounds (k2+1) ?_
  clear z12
  induction k2 generalizing T W12 with
  | succ k2 ih2=>
   have z12:=hS.fr.size
   refine rounds_s (wp_seq ?_)
   refine wq hS hG hK (fun p13=>[.v 94 (.int .i64 (53 - (((k2+1):Nat):Int))),.v 95 (.bool true)]) (fun p13=>[(1,.bool true),(17,.int .i64 (12 - (((k+1):Nat):Int))),(18,.int .i64 (53 - (((k2+1):Nat):Int))),(95,.bool true)]) (fun p13=>?_) (fun p13 W13 T hF hJ=>?_)
   ·refine okv ?_
    refine okvb (decide_eq_true (show (53 - (((k2+1):Nat):Int))≤52 by omega)) ?_
    exact ok_nil
   replace hS:=SymF.fc hS hF [] []
   replace hG:=hF.gx
   clear hF hK
   have hK:=hJ
   clear hJ
   refine wp_cond_true (hK.ew 95) (wp_skip ?_)
   refine then_n (wp_seq (wp_block ?_))
   refine wq hS hG hK (fun p14=>[.v 98 (.int .i64 (12 - (((k+1):Nat):Int))),.v 99 (.int .i64 (53 - (((k2+1):Nat):Int))),.v 100 (.agg #[.int .i64 (12 - (((k+1):Nat):Int)),.int .i64 (53 - (((k2+1):Nat):Int))]),.n 19 #[.int .i64 0,.int .i64 0] 24,.p 1003 0 [.int .i64 (12 - (((k+1):Nat):Int)),.int .i64 (53 - (((k2+1):Nat):Int))]]) (fun p14=>[(1,.bool true),(17,.int .i64 (12 - (((k+1):Nat):Int))),(18,.int .i64 (53 - (((k2+1):Nat):Int))),(19,pT (p14 3).N 0),(95,.bool true)]) (fun p14=>?_) (fun p14 W14 T hF hJ=>?_)
   ·iterate 3 refine okv ?_
    refine okn ?_
    refine okp ?_
    exact ok_nil
   replace hS:=SymF.fc hS hF [1003] [⟨(p14 3).N,#[.int .i64 (12 - (((k+1):Nat):Int)),.int .i64 (53 - (((k2+1):Nat):Int))],24,true⟩]
   replace hG:=hF.gx
   clear hF hK
   have hK:=hJ
   clear hJ
   refine wq hS hG hK (fun p15=>[.l 102 (.agg #[.int .i64 (12 - (((k+1):Nat):Int)),.int .i64 (53 - (((k2+1):Nat):Int))]) 0 0,.c (some 103) (cV (.tuple #[.int .i64 (en (53 - (((k2+1):Nat):Int))),.int .i64 0])),.v 101 (.tuple #[.int .i64 (en (53 - (((k2+1):Nat):Int))),.int .i64 0]),.v 104 (.int .i64 (en (53 - (((k2+1):Nat):Int)))),.v 105 (.int .i64 0),.v 20 (.int .i64 (en (53 - (((k2+1):Nat):Int)))),.v 21 (.int .i64 0)]) (fun p15=>[(1,.bool true),(17,.int .i64 (12 - (((k+1):Nat):Int))),(18,.int .i64 (53 - (((k2+1):Nat):Int))),(19,pT (p14 3).N 0),(20,.int .i64 (en (53 - (((k2+1):Nat):Int)))),(21,.int .i64 0),(95,.bool true)]) (fun p15=>?_) (fun p15 W15 T hF hJ=>?_)
   ·refine okl ?_
    refine okc (fun W cx=>as_v ((unhide HF (12 - (((k+1):Nat):Int)) (53 - (((k2+1):Nat):Int)) (by omega) (by omega) (by omega) (by omega)).1 _)) ?_
    iterate 5 refine okv ?_
    exact ok_nil
   replace hS:=SymF.fd hS hF
   replace hG:=hF.gx
   clear hF hK
   have hK:=hJ
   clear hJ
   refine wq hS hG hK (fun p16=>[.l 107 (.agg #[.int .i64 (12 - (((k+1):Nat):Int)),.int .i64 (53 - (((k2+1):Nat):Int))]) 0 0,.c (some 108) (cV (.tuple #[.int .i64 (su (53 - (((k2+1):Nat):Int))),.int .i64 0])),.v 106 (.tuple #[.int .i64 (su (53 - (((k2+1):Nat):Int))),.int .i64 0]),.v 109 (.int .i64 (su (53 - (((k2+1):Nat):Int)))),.v 110 (.int .i64 0),.v 22 (.int .i64 (su (53 - (((k2+1):Nat):Int)))),.v 23 (.int .i64 0)]) (fun p16=>[(1,.bool true),(17,.int .i64 (12 - (((k+1):Nat):Int))),(18,.int .i64 (53 - (((k2+1):Nat):Int))),(19,pT (p14 3).N 0),(20,.int .i64 (en (53 - (((k2+1):Nat):Int)))),(21,.int .i64 0),(22,.int .i64 (su (53 - (((k2+1):Nat):Int)))),(23,.int .i64 0),(95,.bool true)]) (fun p16=>?_) (fun p16 W16 T hF hJ=>?_)
   ·refine okl ?_
    refine okc (fun W cx=>as_v ((unhide HF (12 - (((k+1):Nat):Int)) (53 - (((k2+1):Nat):Int)) (by omega) (by omega) (by omega) (by omega)).2.1 _)) ?_
    iterate 5 refine okv ?_
    exact ok_nil
   replace hS:=SymF.fd hS hF
   replace hG:=hF.gx
   clear hF hK
   have hK:=hJ
   clear hJ
   refine wq hS hG hK (fun p17=>[.l 112 (.agg #[.int .i64 (12 - (((k+1):Nat):Int)),.int .i64 (53 - (((k2+1):Nat):Int))]) 0 0,.c (some 113) (cV (.tuple #[.int .i64 (en (53 - (((k2+1):Nat):Int))),.int .i64 0])),.v 111 (.tuple #[.int .i64 (en (53 - (((k2+1):Nat):Int))),.int .i64 0]),.v 114 (.int .i64 (en (53 - (((k2+1):Nat):Int)))),.v 115 (.int .i64 0),.v 24 (.int .i64 (en (53 - (((k2+1):Nat):Int)))),.v 25 (.int .i64 0)]) (fun p17=>[(1,.bool true),(17,.int .i64 (12 - (((k+1):Nat):Int))),(18,.int .i64 (53 - (((k2+1):Nat):Int))),(19,pT (p14 3).N 0),(20,.int .i64 (en (53 - (((k2+1):Nat):Int)))),(21,.int .i64 0),(22,.int .i64 (su (53 - (((k2+1):Nat):Int)))),(23,.int .i64 0),(24,.int .i64 (en (53 - (((k2+1):Nat):Int)))),(95,.bool true)]) (fun p17=>?_) (fun p17 W17 T hF hJ=>?_)
   ·refine okl ?_
    refine okc (fun W cx=>as_v ((unhide HF (12 - (((k+1):Nat):Int)) (53 - (((k2+1):Nat):Int)) (by omega) (by omega) (by omega) (by omega)).2.2.1 _)) ?_
    iterate 5 refine okv ?_
    exact ok_nil
   replace hS:=SymF.fd hS hF
   replace hG:=hF.gx
   clear hF hK
   have hK:=hJ
   clear hJ
   refine wq hS hG hK (fun p18=>[.l 117 (.agg #[.int .i64 (12 - (((k+1):Nat):Int)),.int .i64 (53 - (((k2+1):Nat):Int))]) 0 0,.c (some 118) (cV (.tuple #[.int .i64 (su (53 - (((k2+1):Nat):Int))),.int .i64 0])),.v 116 (.tuple #[.int .i64 (su (53 - (((k2+1):Nat):Int))),.int .i64 0]),.v 119 (.int .i64 (su (53 - (((k2+1):Nat):Int)))),.v 120 (.int .i64 0),.v 26 (.int .i64 (su (53 - (((k2+1):Nat):Int)))),.v 27 (.int .i64 0)]) (fun p18=>[(1,.bool true),(17,.int .i64 (12 - (((k+1):Nat):Int))),(18,.int .i64 (53 - (((k2+1):Nat):Int))),(19,pT (p14 3).N 0),(20,.int .i64 (en (53 - (((k2+1):Nat):Int)))),(21,.int .i64 0),(22,.int .i64 (su (53 - (((k2+1):Nat):Int)))),(23,.int .i64 0),(24,.int .i64 (en (53 - (((k2+1):Nat):Int)))),(26,.int .i64 (su (53 - (((k2+1):Nat):Int)))),(95,.bool true)]) (fun p18=>?_) (fun p18 W18 T hF hJ=>?_)
   ·refine okl ?_
    refine okc (fun W cx=>as_v ((unhide HF (12 - (((k+1):Nat):Int)) (53 - (((k2+1):Nat):Int)) (by omega) (by omega) (by omega) (by omega)).2.2.2 _)) ?_
    iterate 5 refine okv ?_
    exact ok_nil
   replace hS:=SymF.fd hS hF
   replace hG:=hF.gx
   clear hF hK
   have hK:=hJ
   clear hJ
   refine wq hS hG hK (fun p19=>[.v 121 (.int .i64 0),.v 122 (.bool false),.v 123 (.bool false),.v 124 (.int .i64 0),.v 125 (.bool false),.v 126 (.bool false),.v 127 (.bool false),.v 128 (.int .i64 (en (53 - (((k2+1):Nat):Int)))),.v 129 (.int .i64 (en (53 - (((k2+1):Nat):Int)))),.v 130 (.bool false),.v 131 (.bool false),.v 132 (.bool false),.v 133 (.int .i64 (su (53 - (((k2+1):Nat):Int)))),.v 134 (.int .i64 (su (53 - (((k2+1):Nat):Int)))),.v 135 (.bool false),.v 136 (.bool false)]) (fun p19=>[(1,.bool true),(17,.int .i64 (12 - (((k+1):Nat):Int))),(18,.int .i64 (53 - (((k2+1):Nat):Int))),(19,pT (p14 3).N 0),(20,.int .i64 (en (53 - (((k2+1):Nat):Int)))),(21,.int .i64 0),(22,.int .i64 (su (53 - (((k2+1):Nat):Int)))),(23,.int .i64 0),(24,.int .i64 (en (53 - (((k2+1):Nat):Int)))),(26,.int .i64 (su (53 - (((k2+1):Nat):Int)))),(95,.bool true),(136,.bool false)]) (fun p19=>?_) (fun p19 W19 T hF hJ=>?_)
   ·iterate 9 refine okv ?_
    refine okvb ((show (en (53 - (((k2+1):Nat):Int)) != en (53 - (((k2+1):Nat):Int))) = false from bne_self_eq_false _)) ?_
    iterate 4 refine okv ?_
    refine okvb ((show (su (53 - (((k2+1):Nat):Int)) != su (53 - (((k2+1):Nat):Int))) = false from bne_self_eq_false _)) ?_
    refine okv ?_
    exact ok_nil
   replace hS:=SymF.fd hS hF
   replace hG:=hF.gx
   clear hF hK
   have hK:=hJ
   clear hJ
   refine wp_cond_false (hK.ew 136) (wp_skip ?_)
   refine inb_n (then_n ?_)
   refine wg hS hG hK (fun p20=>[.v 96 (.int .i64 (53 - (((k2+1):Nat):Int))),.v 97 (.int .i64 (53 - ((k2:Nat):Int))),.v 18 (.int .i64 (53 - ((k2:Nat):Int)))]) (fun p20=>[(1,.bool true),(17,.int .i64 (12 - (((k+1):Nat):Int))),(18,.int .i64 (53 - ((k2:Nat):Int))),(19,pT (p14 3).N 0),(20,.int .i64 (en (53 - (((k2+1):Nat):Int)))),(21,.int .i64 0),(22,.int .i64 (su (53 - (((k2+1):Nat):Int)))),(23,.int .i64 0),(24,.int .i64 (en (53 - (((k2+1):Nat):Int)))),(26,.int .i64 (su (53 - (((k2+1):Nat):Int)))),(95,.bool true),(136,.bool false)]) (fun p20=>?_) (fun p20 W20 T hF hJ=>?_)
   ·refine okv ?_
    refine okvi ((show IntKind.i64.wrap ((53 - (((k2+1):Nat):Int))+1) = (53 - ((k2:Nat):Int)) by rw [wr64 (by omega) (by omega)]; omega)) ?_
    refine okv ?_
    exact ok_nil
   replace hS:=SymF.fd hS hF
   replace hG:=hF.gx
   clear hF hK
   have hK:=hJ
   clear hJ
   refine then_n ?_
   replace hK:Kn T _ [(1,.bool true),(17,.int .i64 (12 - (((k+1):Nat):Int))),(18,.int .i64 (53 - ((k2:Nat):Int)))]:=kn_out (ds:=[]) hK rfl rfl _ (by kernel_rfl) (by kernel_rfl)
   replace hS:Fb (Fr0.all w) _ []:=⟨(fun _ h=>nomatch h),hS.fr,trivial,trivial⟩
   refine ih2 _ _ ?_ ?_ ?_ ?_ <;> first|assumption|omega
  | zero=>
   have z12:=hS.fr.size
   refine rounds_s (wp_seq ?_)
   refine wq hS hG hK (fun p21=>[.v 94 (.int .i64 (53 - ((0:Nat):Int))),.v 95 (.bool false)]) (fun p21=>[(1,.bool true),(17,.int .i64 (12 - (((k+1):Nat):Int))),(18,.int .i64 (53 - ((0:Nat):Int))),(95,.bool false)]) (fun p21=>?_) (fun p21 W21 T hF hJ=>?_)
   ·refine okv ?_
    refine okvb (decide_eq_false (show ¬ (53 - ((0:Nat):Int))≤52 by omega)) ?_
    exact ok_nil
   replace hS:=SymF.fc hS hF [] []
   replace hG:=hF.gx
   clear hF hK
   have hK:=hJ
   clear hJ
   refine wp_cond_false (hK.ew 95) (wp_exit ?_)
   refine then_x (then_x ?_)
   refine inb_x (inb_n (then_n ?_))
   refine wg hS hG hK (fun p22=>[.v 92 (.int .i64 (12 - (((k+1):Nat):Int))),.v 93 (.int .i64 (12 - ((k:Nat):Int))),.v 17 (.int .i64 (12 - ((k:Nat):Int)))]) (fun p22=>[(1,.bool true),(17,.int .i64 (12 - ((k:Nat):Int))),(18,.int .i64 (53 - ((0:Nat):Int))),(95,.bool false)]) (fun p22=>?_) (fun p22 W22 T hF hJ=>?_)
   ·refine okv ?_
    refine okvi ((show IntKind.i64.wrap ((12 - (((k+1):Nat):Int))+1) = (12 - ((k:Nat):Int)) by rw [wr64 (by omega) (by omega)]; omega)) ?_
    refine okv ?_
    exact ok_nil
   replace hS:=SymF.fd hS hF
   replace hG:=hF.gx
   clear hF hK
   have hK:=hJ
   clear hJ
   refine then_n ?_
   replace hK:Kn T _ [(1,.bool true),(17,.int .i64 (12 - ((k:Nat):Int)))]:=kn_out (ds:=[]) hK rfl rfl _ (by kernel_rfl) (by kernel_rfl)
   refine ih ?_ _ _ ?_ ?_ ?_ <;> first|assumption|omega
 | zero=>
  have z10:=hS.fr.size
  refine rounds_s (wp_seq ?_)
  refine wq hS hG hK (fun p23=>[.v 90 (.int .i64 (12 - ((0:Nat):Int))),.v 91 (.bool false)]) (fun p23=>[(1,.bool true),(17,.int .i64 (12 - ((0:Nat):Int))),(91,.bool false)]) (fun p23=>?_) (fun p23 W23 T hF hJ=>?_)
  ·refine okv ?_
   refine okvb (decide_eq_false (show ¬ (12 - ((0:Nat):Int))≤11 by omega)) ?_
   exact ok_nil
  replace hS:=SymF.fc hS hF [] []
  replace hG:=hF.gx
  clear hF hK
  have hK:=hJ
  clear hJ
  refine wp_cond_false (hK.ew 91) (wp_exit ?_)
  refine then_x (then_x ?_)
  refine inb_x (then_n ?_)
  refine wq hS hG hK (fun p24=>[.v 137 (.bool true),.v 138 (.bool true),.v 139 (.bool true),.v 0 (.bool true)]) (fun p24=>[(0,.bool true),(17,.int .i64 (12 - ((0:Nat):Int))),(91,.bool false)]) (fun p24=>?_) (fun p24 W24 T hF hJ=>?_)
  ·iterate 4 refine okv ?_
   exact ok_nil
  replace hS:=SymF.fd hS hF
  replace hG:=hF.gx
  clear hF hK
  have hK:=hJ
  clear hJ
  refine wp_ret ?_
  exact sym_end hS hK (.bool true) [] [] (by kernel_rfl) (by kernel_rfl) ⟨rfl,hS.fr⟩
end Go.Proofs.YtplihgoapiiigaaGreatDoor
