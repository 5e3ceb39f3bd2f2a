/- Of what DigitsFormsRow stands on: DcItoa DcNeaN CloA DcPart DcTextsLaw DbLaw SOrdA RsHalfM DgLaw DgEnLaw2 DgAlive2 DgFoLaw. -/
import Derived.Test.YtnjgeccffjdheaaGreatDoorPad
import Derived.Shelf.Strconv.Itoa3
import Derived.Lib.AppendIntMem
import Derived.Test.YtnjgeccffjdheaaGreatDoorPbi
import Derived.Test.YtnjgeccffjdheaaGreatDoorPaw
import Derived.Test.YtnjgeccffjdheaaGreatDoorPba
import Derived.Test.YtnjgeccffjdheaaGreatDoorPat
import Derived.Test.YtnjgeccffjdheaaGreatDoorPau
import Derived.Test.YtnjgeccffjdheaaGreatDoorPaq
import Derived.Test.YtnjgeccffjdheaaGreatDoorPaf
import Derived.Test.YtnjgeccffjdheaaGreatDoorPaj
import Derived.Test.YtnjgeccffjdheaaGreatDoorPai
import Derived.Test.YtnjgeccffjdheaaGreatDoorPal
import Derived.Test.YtnjgeccffjdheaaGreatDoorPao
import Derived.Test.YtnjgeccffjdheaaGreatDoorPag
import Derived.Test.YtnjgeccffjdheaaGreatDoorPah
import Derived.Deep.LoopGhost
import Derived.Test.YtnjgeccffjdheaaGreatDoorPaa
import Derived.Below
import Derived.LoopN
import Derived.Scope
import Derived.Test.YtnjgeccffjdheaaGreatDoorPbh
import Derived.ChangeKeysEq
import Derived.Test.YtnjgeccffjdheaaGreatDoorPbb
import Derived.Lib.ItoaLen
import Derived.Test.YtnjgeccffjdheaaGreatDoorPbf
import Derived.Test.YtnjgeccffjdheaaGreatDoorPbc
import Derived.Test.YtnjgeccffjdheaaGreatDoorPbd
import Derived.Test.YtnjgeccffjdheaaGreatDoorPbe
import Derived.Test.YtnjgeccffjdheaaGreatDoorPak
import Derived.Test.YtnjgeccffjdheaaGreatDoorPab
import Derived.Test.YtnjgeccffjdheaaGreatDoorPaz
import Derived.Test.YtnjgeccffjdheaaGreatDoorPay
import Derived.Test.YtnjgeccffjdheaaGreatDoorPbj
import Derived.Test.YtnjgeccffjdheaaGreatDoorProg
import Derived.Laws.AppendOwn
import Derived.Laws.Slices
namespace Go.Proofs.YtnjgeccffjdheaaGreatDoor
open Go.RowKit
def Tp (w : World) : Prop := Lib.TabIs Tryz.prog w "internal/strconv.uint64pow10" .u64 Lib.pow10Tab
theorem Tp.kept {w w':World} (h:Tp w) (hb:Below w.heap.size w w'):Tp w':=Lib.tabBelow_of_tabIs h w' hb
theorem Lit.dc {s:ByteArray} {n v:Nat} (h:Lit s n v) (hn:0 < n) (hm:n≤65536) {y:Int} (h0:-1073741824≤y) (h1:y≤1073741824):DcOk s y:=
 ⟨by rw [h.sz]; exact hm,h.ok,h0,h1,fun e=>by rw [h.sz] at e; omega,h.fst,cd_of h.ok h.lst⟩
theorem Rnd.apart {s:ByteArray} {g:Bool} {md c Q R:Nat} {up:Bool} (h:Rnd s g md c Q R up) (hc:0 < c) (hmd:md≤4):apart (valS s) ((Q+(if up then 1 else 0)) * 10 ^ c) = rdist c R up∧valS s≠(Q+(if up then 1 else 0)) * 10 ^ c:=by
 obtain ⟨h1,_,h3,h4,_⟩:=h.dist hc hmd
 generalize rdist c R up = D at *
 unfold Go.Proofs.YtnjgeccffjdheaaGreatDoor.apart
 cases up
 ·have h5:=h4 rfl
  generalize (Q+(if false = true then 1 else 0)) * 10 ^ c = Y at *
  rw [if_pos (by omega)]
  omega
 ·have h5:=h3 rfl
  generalize (Q+(if true = true then 1 else 0)) * 10 ^ c = Y at *
  rw [if_neg (by omega)]
  omega
inductive Or where
 | ix (k:Nat)
 | reg (n:Nat) (l:List (Nat×List (Nat×Bool)×List Or))
 | ap (c j x m:Nat)
 | sl (j c:Nat)
def pt:List UInt8→Bool→List UInt8→Nat→Bool→Option (List UInt8×Nat×Bool)
 | [],_,o,p,q=>some (o,p,q)
 | c :: r,f,o,p,q=>
  if c.toNat = 101 then some (o,p,q)
  else if c.toNat = 45 then (if f then pt r false o p q else none)
  else if c.toNat = 46 then (if q then none else if o = [] then none else pt r false o p true)
  else if 48≤c.toNat∧c.toNat≤57 then pt r false (o ++ [c]) (if q then p+1 else p) q
  else none
theorem says_self {s:ByteArray} (hd:AllD s s.size) (h0:0 < s.size) (ha:∀ h:0 < s.size,(s[0]'h).toNat≠48) (hb:∀ k,(h:k+1 = s.size)→(s[k]'(by omega)).toNat≠48):Says s (valS s)∧valS s % 10≠0:=by
 obtain ⟨q,hq⟩:∃ q,q+1 = s.size:=⟨s.size - 1,by omega⟩
 have hE:Ends s 0 (q+1):=⟨by omega,by omega,fun j _ h=>by omega,fun j h h2=>by omega,fun _ h=>ha h,fun _ h=>hb q hq⟩
 obtain ⟨n,z,hz,hv,h10,hS⟩:=core_of hd hE (Nat.zero_le _)
 have hz0:z = 0:=by omega
 subst hz0
 have hvn:valS s = n:=by simpa using hv
 rw [hvn]
 have he:s.extract 0 (q+1) = s:=by rw [hq,ByteArray.extract_zero_size]
 rw [he] at hS
 exact ⟨hS,h10⟩
theorem dq_uniq {g:Bool} {s s2:ByteArray} {x x2:Int} (h:DcOk s x) (h2:DcOk s2 x2) (n1:s.size≠0) (n2:s2.size≠0) (e:dq g (valS s) x = dq g (valS s2) x2):s = s2∧x = x2:=by
 obtain ⟨ex,hex⟩:∃ ex,min x x2 = ex:=⟨_,rfl⟩
 obtain ⟨o1,ho1⟩:∃ o:Nat,x = ex+(o:Int):=⟨(x - ex).toNat,by omega⟩
 obtain ⟨o2,ho2⟩:∃ o:Nat,x2 = ex+(o:Int):=⟨(x2 - ex).toNat,by omega⟩
 have k:=dq_ord g g (valS s * 10 ^ o1) (valS s2 * 10 ^ o2) ex
 rw [← dq_up,← dq_up,← ho1,← ho2,ordR_eq e] at k
 have k2:valS s * 10 ^ o1 = valS s2 * 10 ^ o2:=by
  unfold cmpZ dvl at k
  generalize valS s * 10 ^ o1 = A at *
  generalize valS s2 * 10 ^ o2 = B at *
  cases g <;> simp only [Bool.false_eq_true,if_true,if_false] at k <;> split at k <;> (try omega) <;> split at k <;> omega
 obtain ⟨k3,k4⟩:=tens_uniq k2 (dx_low h n1).2 (dx_low h2 n2).2
 obtain ⟨S1,_⟩:=says_self h.ok (by omega) h.fst h.lst
 obtain ⟨S2,_⟩:=says_self h2.ok (by omega) h2.fst h2.lst
 rw [k3] at S1
 exact ⟨says_eq S1 S2,by omega⟩
def capR (I md:Nat) (s:Bool) (r:Nat):Nat:=if r < I then r else if fth md s false 1 then I else I - 1
theorem WrQ.lt {F G r:Nat} {s sa:Bool} {va da p d:Nat} (h:WrQ F G s r sa va da) (hl:pv F r * d < p * 2 ^ G):va * d < p * da:=by
 refine Nat.lt_of_mul_lt_mul_right (a:=2 ^ G) ?_
 have a1:va * d * 2 ^ G = pv F r * d * da:=by rw [Nat.mul_right_comm,h.eq]; ac_rfl
 have a2:p * da * 2 ^ G = p * 2 ^ G * da:=Nat.mul_right_comm ..
 rw [a1,a2]
 exact Nat.mul_lt_mul_of_pos_right hl h.hd
theorem WrQ.same {F G r:Nat} {s sa:Bool} {va da p d:Nat} (h:WrQ F G s r sa va da) (hl:pv F r * d = p * 2 ^ G):va * d = p * da:=by
 refine Nat.eq_of_mul_eq_mul_right (Nat.pow_pos (n:=G) (show 0 < 2 by omega)) ?_
 have a1:va * d * 2 ^ G = pv F r * d * da:=by rw [Nat.mul_right_comm,h.eq]; ac_rfl
 have a2:p * da * 2 ^ G = p * 2 ^ G * da:=Nat.mul_right_comm ..
 rw [a1,a2,hl]
theorem dg_half:Fm 5 10 32768 31744:=⟨⟨by decide,by decide,by decide,by decide⟩,by decide,by decide⟩
theorem dglit_a:Lit ⟨#[57,57,57,55,53,53,56,53,57,51,55,53]⟩ 12 999755859375:=Lit.mk' rfl (by decide) (by decide) (by decide) rfl
theorem dglit_b:Lit ⟨#[53,57,54,48,52,54,52,52,55,55,53,51,57,48,54,50,53]⟩ 17 59604644775390625:=Lit.mk' rfl (by decide) (by decide) (by decide) rfl
theorem dq_nz (s:Bool) {v:Nat} (x:Int) (hv:v≠0):dq s v x≠0:=by
 rw [dq_mk]
 intro h
 rw [Rat.mkRat_eq_zero (ten_ne _)] at h
 have h1:=congrArg Int.natAbs h
 rw [Rm.sgn_abs] at h1
 exact Nat.mul_ne_zero hv (ten_ne _) h1
theorem dg_known (s:Bool) {r:Nat} (hr:r < 31744) {t:ByteArray} {n v k p:Nat} (ht:Lit t n v) (hn:0 < n) (hn2:n≤100) (hv:v≠0) (hk:k≤100) (hp:pv 10 r = p) (he:p * 10 ^ k = v * 2 ^ 24) (b:Int) (hb:(((if s then 32768 else 0)+r:Nat):Int) = b) (W:World) (hT:Tb W) (htp:Tpw W) :
  Calls Tryz.prog 9 #[.agg #[.int .i64 5,.int .i64 10],.int .u64 b] W fun e W'=>e = .returned (.tuple #[.agg #[.bool s,.string t,.int .i64 (-(k:Int))],.int .i64 0])∧Below W.heap.size W W':=by
 obtain ⟨sa,m,x,i,j,t3,y,hV,hO,hi,hj,hq,hD,hw,h1,h2,h3,hA⟩:=dall_fin (B:=15) (G:=24) dg_half rfl rfl s hr
 have hL:=ht.dc hn (by omega) (y:=-(k:Int)) (by omega) (by omega)
 have hvt:valS t = v:=ht.val
 have hE:dq s (valS t3) y = dq s (valS t) (-(k:Int)):=by
  rw [hw,hvt,dq_mk,dq_mk,Rat.mkRat_eq_iff (ten_ne _) (ten_ne _)]
  have e1:=hq.eq
  rw [hp] at e1
  have e2:m * 2 ^ i * 10 ^ k = v * 2 ^ j:=by
   refine Nat.eq_of_mul_eq_mul_right (Nat.pow_pos (n:=24) (show 0 < 2 by decide)) ?_
   rw [Nat.mul_right_comm,e1,Nat.one_mul,Nat.mul_right_comm,he,Nat.mul_right_comm]
  have e3:(-(j:Int)).toNat = 0:=by omega
  have e4:(-(-(j:Int))).toNat = j:=by omega
  have e5:(-(k:Int)).toNat = 0:=by omega
  have e6:(-(-(k:Int))).toNat = k:=by omega
  rw [e3,e4,e5,e6,Nat.pow_zero,Nat.mul_one,Nat.mul_one,← Rm.sgn_scale,← Rm.sgn_scale]
  congr 1
  rw [show (10:Nat) ^ j = 2 ^ j * 5 ^ j by rw [← Nat.mul_pow],← Nat.mul_assoc,← e2]
  exact Nat.mul_right_comm ..
 have n2:t.size≠0:=by rw [ht.sz]; omega
 have n1:t3.size≠0:=fun h0=>by
  have h4:=dx_empty h0
  rw [h4,dq_zero,hvt] at hE
  have h5:=(dq_nz s (-(k:Int)) hv)
  exact h5 hE.symm
 obtain ⟨rfl,rfl⟩:=dq_uniq hD hL n1 n2 hE
 have:=hA W hT htp
 rw [hb] at this
 exact this
theorem least_ten (T:Nat) (h1:1≤T) (h2:T < 18446744073709551616):∃ q,q≤20∧T < 10 ^ q∧∀ j,j < q→10 ^ j≤T:=by
 refine ⟨Lib.nDigits T,Lib.nDigits_le20 T h2,Lib.lt_pow_nDigits T,fun j hj=>?_⟩
 rcases Nat.lt_or_ge T 10 with h9|h9
 ·rw [Lib.nDigits_small h9] at hj
  obtain rfl:j = 0:=by omega
  simpa using h1
 ·obtain ⟨k,hk⟩:∃ k,Lib.nDigits T = k+1:=⟨Lib.nDigits T - 1,by omega⟩
  exact Nat.le_trans (Nat.pow_le_pow_right (by decide) (by omega)) (dg_low k T hk h9)
theorem form_value (E F:Int):(NoFo E F∧∀ W:World,Calls Tryz.prog 12 #[.agg #[.int .i64 E,.int .i64 F]] W fun e W'=>e = .returned (.int .i64 5)∧Below W.heap.size W W') ∨
  ∃ E' F':Nat,E = (E':Int)∧F = (F':Int)∧Fo E' F'∧∀ W:World,Calls Tryz.prog 12 #[.agg #[.int .i64 (E':Int),.int .i64 (F':Int)]] W fun e W'=>e = .returned (.int .i64 0)∧Below W.heap.size W W':=by
 rcases fo_cases5 E F with hb|⟨E',F',rfl,rfl,h0⟩
 ·exact Or.inl ⟨hb,fun W=>dchf_is W E F 5 (hide fun W=>Value_form E F hb 0 W)⟩
 ·refine Or.inr ⟨E',F',rfl,rfl,h0,fun W=>dchf_is W E' F' 0 (hide fun W=>?_)⟩
  have hB:Bt E' F' 0 false 0 0:=⟨Nat.pow_pos (by decide),Nat.pow_pos (by decide),by simp⟩
  exact Value_zero E' F' (2 ^ (E' - 1) - 1) 0 false W h0 (hide rfl) hB
theorem mk_one (g:Bool) (z:Nat) (x:Int) (h1:-1000≤x+(z:Int)) (h2:x+(z:Int)≤1000):MkA g (10 ^ z) x (.tuple #[.agg #[.bool g,.string ⟨#[49]⟩,.int .i64 (x+(z:Int))],.int .i64 0]):=
 Or.inr ⟨⟨#[49]⟩,1,z,(Nat.one_mul _).symm,by decide,says_1,Or.inr ⟨by omega,rfl⟩⟩
theorem alive_form:∀ W:World,Calls Tryz.prog 12 #[.agg #[.int .i64 ((5:Nat):Int),.int .i64 ((10:Nat):Int)]] W fun e W'=>e = .returned (.int .i64 0)∧Below W.heap.size W W':=by
 rcases form_value 5 10 with ⟨hb,_⟩|⟨E,F,h1,h2,_,hC⟩
 ·unfold NoFo at hb; omega
 ·obtain rfl:E = 5:=by omega
  obtain rfl:F = 10:=by omega
  exact hC
theorem alive_enough (W:World):Calls Tryz.prog 5 #[.agg #[.int .i64 5,.int .i64 10]] W fun e W'=>e = .returned (.tuple #[.int .i64 5,.int .i64 0])∧Below W.heap.size W W':=
 den_ok W 5 10 4 2048 (fun j=>10 ^ j) (by decide) rfl (fun j _=>Nat.pow_succ ..) (fun j hj=>by
  have:10 ^ j≤10 ^ 3:=Nat.pow_le_pow_right (by decide) (by omega)
  show 10 ^ j≤2048; omega) (by decide) (by decide) (by decide) (by decide) (hide alive_form)
theorem alive_sure (W:World):Calls Tryz.prog 6 #[.agg #[.int .i64 5,.int .i64 10]] W fun e W'=>e = .returned (.tuple #[.int .i64 3,.int .i64 0])∧Below W.heap.size W W':=
 dsu_ok W 5 10 3 1024 (fun j=>10 ^ (j+1)) rfl (fun j _=>Nat.pow_succ ..) (fun j hj=>by
  have:10 ^ (j+1)≤10 ^ 3:=Nat.pow_le_pow_right (by decide) (by omega)
  show 10 ^ (j+1) < 1024; omega) (by decide) (by decide) (by decide) (by decide) (hide alive_form)
theorem alive_round (W:World):Calls Tryz.prog 19 #[.agg #[.bool false,.string ⟨#[57,57,57,55,53,53,56,53,57,51,55,53]⟩,.int .i64 (-13)],.int .i64 3,.int .u8 0] W fun e W'=>e = .returned (.tuple #[.agg #[.bool false,.string ⟨#[49]⟩,.int .i64 (-1)],.bool false,.int .i64 0])∧Below W.heap.size W W':=by
 have hD:=dglit_a.dc (by decide) (by decide) (y:=-13) (by decide) (by decide)
 rcases round_num false _ (-13) 3 0 hD (by decide) (by decide) (by decide) (hD.chk false) with ⟨h,_⟩|⟨c,Q,R,up,g2,s2,x2,e2,k1,k2,k3,k4,k5,hc⟩
 ·rw [dglit_a.sz] at h; omega
 ·rw [dglit_a.sz] at k1
  obtain rfl:c = 9:=by omega
  have hv:=k3.val
  have hl:=k3.lt
  rw [dglit_a.val] at hv
  have hQ:Q = 999∧R = 755859375:=by
   have e9:(10:Nat) ^ 9 = 1000000000:=by decide
   rw [e9] at hv hl; omega
  obtain ⟨rfl,rfl⟩:=hQ
  have hu:=k3.up
  rw [show cmpZ ((755859375:Nat):Int) ((5 * 10 ^ (9 - 1):Nat):Int) = 1 by decide] at hu
  obtain rfl:up = true:=by rw [hu]; decide
  have:=k5.uniq (mk_one false 3 (-13+((9:Nat):Int)) (by decide) (by decide))
  simp only [Value.tuple.injEq,Array.mk.injEq,List.cons.injEq,Value.agg.injEq,Value.bool.injEq,Value.string.injEq,Value.int.injEq,and_true,true_and] at this
  obtain ⟨⟨rfl,rfl,rfl⟩,rfl⟩:=this
  exact hc W
theorem alive_places (W:World):Calls Tryz.prog 20 #[.agg #[.bool true,.string ⟨#[53,57,54,48,52,54,52,52,55,55,53,51,57,48,54,50,53]⟩,.int .i64 (-24)],.int .i64 3,.int .u8 4] W fun e W'=>e = .returned (.tuple #[.agg #[.bool true,.string ⟨#[49]⟩,.int .i64 (-3)],.bool false,.int .i64 0])∧Below W.heap.size W W':=by
 have hD:=dglit_b.dc (by decide) (by decide) (y:=-24) (by decide) (by decide)
 rcases places_num true _ (-24) 3 4 hD (by decide) (by decide) (hD.chk true) with ⟨h,_⟩|⟨c,Q,R,up,g2,s2,x2,e2,k1,k2,k3,k4,k5,hc⟩
 ·omega
 ·obtain rfl:c = 21:=by omega
  rw [dglit_b.sz] at k4
  obtain rfl:Q = 0:=by
   have e0:(10:Nat) ^ (17 - 21) = 1:=by decide
   rw [e0] at k4; omega
  have hu:=k3.up
  obtain rfl:up = true:=by rw [hu]; rfl
  have:=k5.uniq (mk_one true 0 (-24+((21:Nat):Int)) (by decide) (by decide))
  simp only [Value.tuple.injEq,Array.mk.injEq,List.cons.injEq,Value.agg.injEq,Value.bool.injEq,Value.string.injEq,Value.int.injEq,and_true,true_and] at this
  obtain ⟨⟨rfl,rfl,rfl⟩,rfl⟩:=this
  exact hc W
theorem dgalive2_any (W:World) (hT:Tb W) (htp:Tpw W):Calls Tryz.prog 4 #[] W fun e W'=>e = .returned (.bool true)∧Below W.heap.size W W':=by
 have H1:=hide fun (W:World) (hT:Tb W) (htp:Tpw W)=>dg_known false (r:=11878) (by decide) dglit_a (k:=13) (p:=1677312) (by decide) (by decide) (by decide) (by decide) (by kernel_rfl) (by kernel_rfl) 11878 (by simp) W hT htp
 have H0:=hide fun (W:World) (hT:Tb W) (htp:Tpw W)=>dg_known true (r:=1) (by decide) dglit_b (k:=24) (p:=1) (by decide) (by decide) (by decide) (by decide) (by kernel_rfl) (by kernel_rfl) 32769 (by simp) W hT htp
 have H2:=hide fun (W:World) (hT:Tb W) (htp:Tpw W)=>dsome_ok W 5 10 11878 3 0 false false false ⟨#[57,57,57,55,53,53,56,53,57,51,55,53]⟩ ⟨#[49]⟩ (-13) (-1) 0 hT htp H1 (hide alive_round)
 have H3:=hide fun (W:World) (hT:Tb W) (htp:Tpw W)=>dplaces_ok W 5 10 32769 3 4 true true false ⟨#[53,57,54,48,52,54,52,52,55,55,53,51,57,48,54,50,53]⟩ ⟨#[49]⟩ (-24) (-3) 0 hT htp H0 (hide alive_places)
 exact dalive_is W hT htp H1 H2 H3 (hide alive_enough) (hide alive_sure)
theorem dfo_five:∀ F,F < 53→2 ^ F % 5≠0:=by decide
theorem digitsForms_any (E F:Int) (w:World) (htp:Tpw w) (hT:Tb w) :
  Calls Tryz.prog 3 #[.agg #[.int .i64 E,.int .i64 F]] w fun e w'=>e = .returned (.bool true)∧Below w.heap.size w w':=by
 have HL:=hide dgalive2_any
 rcases form_value E F with ⟨hb,hC⟩|⟨E,F,rfl,rfl,h0,hC⟩
 ·have hf:=hide fun W:World=>by
   have:=rform_any E F W
   rwa [decide_eq_false (by unfold NoFo at hb; omega)] at this
  exact dfol w E F 0 0 5 hT htp HL (hide fun W=>den_e W E F 5 (by decide) (hide hC)) (hide fun W=>dsu_e W E F 5 (by decide) (hide hC)) (hide fun W=>ren_e W E F hf) (hide fun W=>rsu_e W E F hf)
 have hF:=h0.f52
 have hF1:=h0.f1
 have hf:=hide fun W:World=>by
  have:=rform_any (E:Int) (F:Int) W
  rwa [decide_eq_true (by have:=h0.e2; have:=h0.e11; omega)] at this
 have hT:2 ^ (F+1)≤2 ^ 53:=Nat.pow_le_pow_right (by decide) (by omega)
 have hT1:1≤2 ^ (F+1):=Nat.pow_pos (by decide)
 have hU:2 ^ F≤2 ^ 52:=Nat.pow_le_pow_right (by decide) hF
 have hU1:2 ^ 1≤2 ^ F:=Nat.pow_le_pow_right (by decide) hF1
 obtain ⟨q,hq,a1,a2⟩:=least_ten (2 ^ (F+1)) hT1 (by omega)
 obtain ⟨q2,hq2,b1,b2⟩:=least_ten (2 ^ F) (by omega) (by omega)
 have hq1:1≤q2:=by
  rcases Nat.eq_zero_or_pos q2 with rfl|h
  ·rw [Nat.pow_zero] at b1; omega
  ·exact h
 obtain ⟨n,rfl⟩:∃ n,q2 = n+1:=⟨q2 - 1,by omega⟩
 have hlt:∀ j,j < n→10 ^ (j+1) < 2 ^ F:=fun j hj=>by
  have h1:=b2 (j+1) (by omega)
  have h2:=dfo_five F (by omega)
  have h3:10 ^ (j+1) % 5 = 0:=by rw [Nat.pow_succ]; omega
  generalize 10 ^ (j+1) = x at *
  generalize 2 ^ F = y at *
  have:x≠y:=by rintro rfl; exact h2 h3
  omega
 have G1:=hide fun W:World=>den_ok W E F q (2 ^ (F+1)) (fun j=>10 ^ j) hF rfl (fun j _=>Nat.pow_succ ..) a2 a1 (by omega) (by omega) (by
  rw [show min ((F:Int)+1).toNat 64 = F+1 by omega,Int.one_mul,IntKind.wrap_u64]
  have e1:((2:Int) ^ (F+1)) = ((2 ^ (F+1):Nat):Int):=by simp
  rw [e1]
  omega) (hide hC)
 have G2:=hide fun W:World=>dsu_ok W E F n (2 ^ F) (fun j=>10 ^ (j+1)) rfl (fun j _=>Nat.pow_succ ..) hlt (Nat.le_of_lt b1) (by omega) (by omega) (by
  rw [show min (F:Int).toNat 64 = F by omega,Int.one_mul,IntKind.wrap_u64]
  have e1:((2:Int) ^ F) = ((2 ^ F:Nat):Int):=by simp
  rw [e1]
  omega) (hide hC)
 have G3:=hide fun W:World=>ren_ok W E F q hf hF (by omega) (hide fun W j hj=>by
  have:=rabove W j (F+1) (by omega) (by omega)
  rwa [decide_eq_false (by have:=a2 j hj; omega)] at this) (hide fun W=>by
  have:=rabove W q (F+1) (by omega) (by omega)
  rwa [decide_eq_true a1] at this)
 have G4:=hide fun W:World=>rsu_ok W E F n hf hF (by omega) (hide fun W j hj=>by
  have:=rabove W (j+1) F (by omega) (by omega)
  rwa [decide_eq_false (by have:=hlt j hj; omega)] at this) (hide fun W=>by
  have:=rabove W (n+1) F (by omega) (by omega)
  rwa [decide_eq_true b1] at this)
 exact dfol w (E:Int) (F:Int) _ _ 0 ‹Tb w› htp HL G1 G2 G3 G4
end Go.Proofs.YtnjgeccffjdheaaGreatDoor
