/- Of what DigitsSureRow stands on: DcItoa DcNeaN CloA SymW DcPart DcTextsLaw DbLaw SOrdA SOrdLaw RsHalfM RsLaw DgLaw DgEnM DgEnLaw DgEnLaw2 DgSuM DgSuLaw DgAlive2 DgSuLaw2. -/
import Derived.Test.YteafdlblemdclaaGreatDoorPad
import Derived.Shelf.Strconv.Itoa3
import Derived.Lib.AppendIntMem
import Derived.Test.YteafdlblemdclaaGreatDoorPbj
import Derived.Test.YteafdlblemdclaaGreatDoorPbh
import Derived.Test.YteafdlblemdclaaGreatDoorPaz
import Derived.Test.YteafdlblemdclaaGreatDoorPaa
import Derived.Below
import Derived.LoopN
import Derived.Scope
import Derived.Test.YteafdlblemdclaaGreatDoorPbi
import Derived.ChangeKeysEq
import Derived.Lib.ItoaLen
import Derived.Test.YteafdlblemdclaaGreatDoorPay
import Derived.Test.YteafdlblemdclaaGreatDoorPbq
import Derived.Test.YteafdlblemdclaaGreatDoorPbk
import Derived.Test.YteafdlblemdclaaGreatDoorPbe
import Derived.Test.YteafdlblemdclaaGreatDoorPar
import Derived.Test.YteafdlblemdclaaGreatDoorPbn
import Derived.Test.YteafdlblemdclaaGreatDoorPbc
import Derived.Test.YteafdlblemdclaaGreatDoorPaw
import Derived.Test.YteafdlblemdclaaGreatDoorPbm
import Derived.Test.YteafdlblemdclaaGreatDoorPbp
import Derived.Test.YteafdlblemdclaaGreatDoorPbr
import Derived.Test.YteafdlblemdclaaGreatDoorProg
import Derived.Laws.AppendOwn
import Derived.Laws.Slices
namespace Go.Proofs.YteafdlblemdclaaGreatDoor
open Go.RowKit
def Tp (w : World) : Prop := Lib.TabIs Tryz.prog w "internal/strconv.uint64pow10" .u64 Lib.pow10Tab
theorem Tp.kept {w w':World} (h:Tp w) (hb:Below w.heap.size w w'):Tp w':=Lib.tabBelow_of_tabIs h w' hb
theorem Lit.dc {s:ByteArray} {n v:Nat} (h:Lit s n v) (hn:0 < n) (hm:n≤65536) {y:Int} (h0:-1073741824≤y) (h1:y≤1073741824):DcOk s y:=
 ⟨by rw [h.sz]; exact hm,h.ok,h0,h1,fun e=>by rw [h.sz] at e; omega,h.fst,cd_of h.ok h.lst⟩
theorem Rnd.apart {s:ByteArray} {g:Bool} {md c Q R:Nat} {up:Bool} (h:Rnd s g md c Q R up) (hc:0 < c) (hmd:md≤4):apart (valS s) ((Q+(if up then 1 else 0)) * 10 ^ c) = rdist c R up∧valS s≠(Q+(if up then 1 else 0)) * 10 ^ c:=by
 obtain ⟨h1,_,h3,h4,_⟩:=h.dist hc hmd
 generalize rdist c R up = D at *
 unfold Go.Proofs.YteafdlblemdclaaGreatDoor.apart
 cases up
 ·have h5:=h4 rfl
  generalize (Q+(if false = true then 1 else 0)) * 10 ^ c = Y at *
  rw [if_pos (by omega)]
  omega
 ·have h5:=h3 rfl
  generalize (Q+(if true = true then 1 else 0)) * 10 ^ c = Y at *
  rw [if_neg (by omega)]
  omega
inductive Or where
 | ix (k:Nat)
 | reg (n:Nat) (l:List (Nat×List (Nat×Bool)×List Or))
 | ap (c j x m:Nat)
 | sl (j c:Nat)
theorem OneBut.below {p off:Nat} {w W':World} {cs:Array Value} {t:TypeId} {xs:List Value} (ht:t≠83) (hc:NoLimb cs.toList) (hx:NoLimb xs) (h1:xs.all (·.oneCell') = true) (hn:off+xs.length≤cs.size) (h0:w.heap[p]? = some (.cells cs t (0,0))) (h:OneBut p w W') (hp:W'.heap[p]? = some (.cells (setL cs off xs) t (0,0))):Below w.heap.size (evs (sts p off xs) w) W':=by
 obtain ⟨-,g2,g3,g4,g5,-⟩:=sts_ok (w0:=Fr0.but p w) ht (Or.inl rfl) xs off cs w h0 hn hc hx h1 ⟨rfl,rfl,rfl,Nat.le_refl _,fun _ _ _=>rfl⟩
 have g4':OneBut p w (evs (sts p off xs) w):=g4
 refine ⟨h.os.trans g4'.os.symm,h.tape.trans g4'.tape.symm,h.output.trans g4'.output.symm,by rw [g5]; exact h.size,fun k hk=>?_⟩
 by_cases hkp:k = p
 ·subst hkp; rw [hp,g2]
 ·rw [h.block k hk hkp,g3 k hkp]
def pt:List UInt8→Bool→List UInt8→Nat→Bool→Option (List UInt8×Nat×Bool)
 | [],_,o,p,q=>some (o,p,q)
 | c :: r,f,o,p,q=>
  if c.toNat = 101 then some (o,p,q)
  else if c.toNat = 45 then (if f then pt r false o p q else none)
  else if c.toNat = 46 then (if q then none else if o = [] then none else pt r false o p true)
  else if 48≤c.toNat∧c.toNat≤57 then pt r false (o ++ [c]) (if q then p+1 else p) q
  else none
theorem says_self {s:ByteArray} (hd:AllD s s.size) (h0:0 < s.size) (ha:∀ h:0 < s.size,(s[0]'h).toNat≠48) (hb:∀ k,(h:k+1 = s.size)→(s[k]'(by omega)).toNat≠48):Says s (valS s)∧valS s % 10≠0:=by
 obtain ⟨q,hq⟩:∃ q,q+1 = s.size:=⟨s.size - 1,by omega⟩
 have hE:Ends s 0 (q+1):=⟨by omega,by omega,fun j _ h=>by omega,fun j h h2=>by omega,fun _ h=>ha h,fun _ h=>hb q hq⟩
 obtain ⟨n,z,hz,hv,h10,hS⟩:=core_of hd hE (Nat.zero_le _)
 have hz0:z = 0:=by omega
 subst hz0
 have hvn:valS s = n:=by simpa using hv
 rw [hvn]
 have he:s.extract 0 (q+1) = s:=by rw [hq,ByteArray.extract_zero_size]
 rw [he] at hS
 exact ⟨hS,h10⟩
theorem dq_uniq {g:Bool} {s s2:ByteArray} {x x2:Int} (h:DcOk s x) (h2:DcOk s2 x2) (n1:s.size≠0) (n2:s2.size≠0) (e:dq g (valS s) x = dq g (valS s2) x2):s = s2∧x = x2:=by
 obtain ⟨ex,hex⟩:∃ ex,min x x2 = ex:=⟨_,rfl⟩
 obtain ⟨o1,ho1⟩:∃ o:Nat,x = ex+(o:Int):=⟨(x - ex).toNat,by omega⟩
 obtain ⟨o2,ho2⟩:∃ o:Nat,x2 = ex+(o:Int):=⟨(x2 - ex).toNat,by omega⟩
 have k:=dq_ord g g (valS s * 10 ^ o1) (valS s2 * 10 ^ o2) ex
 rw [← dq_up,← dq_up,← ho1,← ho2,ordR_eq e] at k
 have k2:valS s * 10 ^ o1 = valS s2 * 10 ^ o2:=by
  unfold cmpZ dvl at k
  generalize valS s * 10 ^ o1 = A at *
  generalize valS s2 * 10 ^ o2 = B at *
  cases g <;> simp only [Bool.false_eq_true,if_true,if_false] at k <;> split at k <;> (try omega) <;> split at k <;> omega
 obtain ⟨k3,k4⟩:=tens_uniq k2 (dx_low h n1).2 (dx_low h2 n2).2
 obtain ⟨S1,_⟩:=says_self h.ok (by omega) h.fst h.lst
 obtain ⟨S2,_⟩:=says_self h2.ok (by omega) h2.fst h2.lst
 rw [k3] at S1
 exact ⟨says_eq S1 S2,by omega⟩
def capR (I md:Nat) (s:Bool) (r:Nat):Nat:=if r < I then r else if fth md s false 1 then I else I - 1
def rq (s:Bool) (p d:Nat) (hd:0 < d) (hg:Nat.gcd p d = 1):Rat:=⟨Rm.sgn s p,d,by omega,by rw [Nat.Coprime,Rm.sgn_abs]; exact hg⟩
theorem fq_rq {w:World} {s:Bool} {a b:Option Addr} {n k p d:Nat} {hd:0 < d} {hg:Nat.gcd p d = 1} (hs:s = true→0 < p) (h1:Num w a n p) (h2:Num w b k d):Fq w s a n b k (rq s p d hd hg):=by
 refine ⟨(Rm.sgn_neg fun e=>?_).symm,?_,h2⟩
 ·cases s
  ·rfl
  ·have:=hs rfl; omega
 ·show Num w a n (Rm.sgn s p).natAbs
  rw [Rm.sgn_abs]; exact h1
theorem WrQ.lt {F G r:Nat} {s sa:Bool} {va da p d:Nat} (h:WrQ F G s r sa va da) (hl:pv F r * d < p * 2 ^ G):va * d < p * da:=by
 refine Nat.lt_of_mul_lt_mul_right (a:=2 ^ G) ?_
 have a1:va * d * 2 ^ G = pv F r * d * da:=by rw [Nat.mul_right_comm,h.eq]; ac_rfl
 have a2:p * da * 2 ^ G = p * 2 ^ G * da:=Nat.mul_right_comm ..
 rw [a1,a2]
 exact Nat.mul_lt_mul_of_pos_right hl h.hd
theorem WrQ.same {F G r:Nat} {s sa:Bool} {va da p d:Nat} (h:WrQ F G s r sa va da) (hl:pv F r * d = p * 2 ^ G):va * d = p * da:=by
 refine Nat.eq_of_mul_eq_mul_right (Nat.pow_pos (n:=G) (show 0 < 2 by omega)) ?_
 have a1:va * d * 2 ^ G = pv F r * d * da:=by rw [Nat.mul_right_comm,h.eq]; ac_rfl
 have a2:p * da * 2 ^ G = p * 2 ^ G * da:=Nat.mul_right_comm ..
 rw [a1,a2,hl]
theorem cmp_nums {s t:Bool} {p d p' d':Nat} (hd:0 < d) (hg:Nat.gcd p d = 1) (hs:s = true→0 < p) (hd':0 < d') (hg':Nat.gcd p' d' = 1) (hs':t = true→0 < p') (o1:¬ Over (p * d')) (o2:¬ Over (p' * d)) (W:World) (a:Option Addr) (n c:Nat) (b:Option Addr) (k l:Nat) (a':Option Addr) (n' c':Nat) (b':Option Addr) (k' l':Nat) (h1:Num W a n p) (h2:Num W b k d) (h3:Num W a' n' p') (h4:Num W b' k' d') :
  Calls Tryz.prog 54 #[.agg #[.bool s,.slice a n c,.slice b k l],.agg #[.bool t,.slice a' n' c',.slice b' k' l']] W fun e W'=>e = .returned (.tuple #[.int .i64 (ordR (rq s p d hd hg) (rq t p' d' hd' hg')),.int .i64 0])∧Below W.heap.size W W':=
 cmp_rat s t a b a' b' n k n' k' c l c' l' _ _ W (fq_rq hs h1 h2) (fq_rq hs' h3 h4) (by show ¬ Over ((Rm.sgn s p).natAbs * d'); rw [Rm.sgn_abs]; exact o1) (by show ¬ Over ((Rm.sgn t p').natAbs * d); rw [Rm.sgn_abs]; exact o2)
theorem ord_gt_of {s t:Bool} {p d p' d':Nat} {hd:0 < d} {hg:Nat.gcd p d = 1} {hd':0 < d'} {hg':Nat.gcd p' d' = 1} (h:Rm.sgn t p' * (d:Int) < Rm.sgn s p * (d':Int)):ordR (rq s p d hd hg) (rq t p' d' hd' hg') = 1:=ordR_gt h
theorem dg_half:Fm 5 10 32768 31744:=⟨⟨by decide,by decide,by decide,by decide⟩,by decide,by decide⟩
theorem dglit_a:Lit ⟨#[57,57,57,55,53,53,56,53,57,51,55,53]⟩ 12 999755859375:=Lit.mk' rfl (by decide) (by decide) (by decide) rfl
theorem dglit_b:Lit ⟨#[53,57,54,48,52,54,52,52,55,55,53,51,57,48,54,50,53]⟩ 17 59604644775390625:=Lit.mk' rfl (by decide) (by decide) (by decide) rfl
theorem dq_nz (s:Bool) {v:Nat} (x:Int) (hv:v≠0):dq s v x≠0:=by
 rw [dq_mk]
 intro h
 rw [Rat.mkRat_eq_zero (ten_ne _)] at h
 have h1:=congrArg Int.natAbs h
 rw [Rm.sgn_abs] at h1
 exact Nat.mul_ne_zero hv (ten_ne _) h1
theorem dg_known (s:Bool) {r:Nat} (hr:r < 31744) {t:ByteArray} {n v k p:Nat} (ht:Lit t n v) (hn:0 < n) (hn2:n≤100) (hv:v≠0) (hk:k≤100) (hp:pv 10 r = p) (he:p * 10 ^ k = v * 2 ^ 24) (b:Int) (hb:(((if s then 32768 else 0)+r:Nat):Int) = b) (W:World) (hT:Tb W) (htp:Tpw W) :
  Calls Tryz.prog 9 #[.agg #[.int .i64 5,.int .i64 10],.int .u64 b] W fun e W'=>e = .returned (.tuple #[.agg #[.bool s,.string t,.int .i64 (-(k:Int))],.int .i64 0])∧Below W.heap.size W W':=by
 obtain ⟨sa,m,x,i,j,t3,y,hV,hO,hi,hj,hq,hD,hw,h1,h2,h3,hA⟩:=dall_fin (B:=15) (G:=24) dg_half rfl rfl s hr
 have hL:=ht.dc hn (by omega) (y:=-(k:Int)) (by omega) (by omega)
 have hvt:valS t = v:=ht.val
 have hE:dq s (valS t3) y = dq s (valS t) (-(k:Int)):=by
  rw [hw,hvt,dq_mk,dq_mk,Rat.mkRat_eq_iff (ten_ne _) (ten_ne _)]
  have e1:=hq.eq
  rw [hp] at e1
  have e2:m * 2 ^ i * 10 ^ k = v * 2 ^ j:=by
   refine Nat.eq_of_mul_eq_mul_right (Nat.pow_pos (n:=24) (show 0 < 2 by decide)) ?_
   rw [Nat.mul_right_comm,e1,Nat.one_mul,Nat.mul_right_comm,he,Nat.mul_right_comm]
  have e3:(-(j:Int)).toNat = 0:=by omega
  have e4:(-(-(j:Int))).toNat = j:=by omega
  have e5:(-(k:Int)).toNat = 0:=by omega
  have e6:(-(-(k:Int))).toNat = k:=by omega
  rw [e3,e4,e5,e6,Nat.pow_zero,Nat.mul_one,Nat.mul_one,← Rm.sgn_scale,← Rm.sgn_scale]
  congr 1
  rw [show (10:Nat) ^ j = 2 ^ j * 5 ^ j by rw [← Nat.mul_pow],← Nat.mul_assoc,← e2]
  exact Nat.mul_right_comm ..
 have n2:t.size≠0:=by rw [ht.sz]; omega
 have n1:t3.size≠0:=fun h0=>by
  have h4:=dx_empty h0
  rw [h4,dq_zero,hvt] at hE
  have h5:=(dq_nz s (-(k:Int)) hv)
  exact h5 hE.symm
 obtain ⟨rfl,rfl⟩:=dq_uniq hD hL n1 n2 hE
 have:=hA W hT htp
 rw [hb] at this
 exact this
theorem fth_lo (s o:Bool):fth 0 s o (-1) = false:=by cases s <;> cases o <;> rfl
theorem fth_hi (s o:Bool):fth 0 s o 1 = true:=by cases s <;> cases o <;> rfl
theorem dq_cross {g f sa:Bool} {D N R S va da:Nat} {y:Int} (hS:S≠0) (hda:da≠0) (h1:dq g D y = mkRat (Rm.sgn f R) S) (h2:dq g N y = mkRat (Rm.sgn sa va) da):R * N * da = va * D * S:=by
 rw [dq_mk,Rat.mkRat_eq_iff (ten_ne _) hS] at h1
 rw [dq_mk,Rat.mkRat_eq_iff (ten_ne _) hda] at h2
 have k1:=congrArg Int.natAbs h1
 have k2:=congrArg Int.natAbs h2
 simp only [Int.natAbs_mul,Rm.sgn_abs,Int.natAbs_natCast] at k1 k2
 have hA:0 < 10 ^ y.toNat:=Nat.pow_pos (by decide)
 have hB:0 < 10 ^ (-y).toNat:=Nat.pow_pos (by decide)
 generalize 10 ^ y.toNat = A at *
 generalize 10 ^ (-y).toNat = B at *
 refine Nat.eq_of_mul_eq_mul_right (Nat.mul_pos hA hB) ?_
 calc R * N * da * (A * B) = (R * B) * (N * A * da):=by grind
  _ = (D * A * S) * (va * B):=by rw [← k1,k2]
  _ = va * D * S * (A * B):=by grind
theorem blen_le {a b k:Nat} (h:a≤b * 2 ^ k):blen a≤blen b+k:=by
 refine bl_le (bl_blen a) (Nat.lt_of_le_of_lt h ?_)
 rw [Nat.pow_add]
 exact Nat.mul_lt_mul_of_pos_right (bl_blen b).1 (Nat.pow_pos (by decide))
theorem dq_sign {g f:Bool} {D R S:Nat} {y:Int} (hD:0 < D) (hR:0 < R) (hS:0 < S) (h:dq g D y = mkRat (Rm.sgn f R) S):f = g:=by
 rw [dq_mk,Rat.mkRat_eq_iff (ten_ne _) (by omega)] at h
 have hA:0 < 10 ^ y.toNat:=Nat.pow_pos (by decide)
 have hB:0 < 10 ^ (-y).toNat:=Nat.pow_pos (by decide)
 generalize 10 ^ y.toNat = A at *
 generalize 10 ^ (-y).toNat = B at *
 rw [← Rm.sgn_scale,← Rm.sgn_scale] at h
 have h1:0 < D * A * S:=Nat.mul_pos (Nat.mul_pos hD hA) hS
 have h2:0 < R * B:=Nat.mul_pos hR hB
 generalize D * A * S = P at *
 generalize R * B = Q at *
 unfold Rm.sgn at h
 cases g <;> cases f <;> simp at h ⊢ <;> omega
theorem least_ten (T:Nat) (h1:1≤T) (h2:T < 18446744073709551616):∃ q,q≤20∧T < 10 ^ q∧∀ j,j < q→10 ^ j≤T:=by
 refine ⟨Lib.nDigits T,Lib.nDigits_le20 T h2,Lib.lt_pow_nDigits T,fun j hj=>?_⟩
 rcases Nat.lt_or_ge T 10 with h9|h9
 ·rw [Lib.nDigits_small h9] at hj
  obtain rfl:j = 0:=by omega
  simpa using h1
 ·obtain ⟨k,hk⟩:∃ k,Lib.nDigits T = k+1:=⟨Lib.nDigits T - 1,by omega⟩
  exact Nat.le_trans (Nat.pow_le_pow_right (by decide) (by omega)) (dg_low k T hk h9)
theorem form_value (E F:Int):(NoFo E F∧∀ W:World,Calls Tryz.prog 45 #[.agg #[.int .i64 E,.int .i64 F]] W fun e W'=>e = .returned (.int .i64 5)∧Below W.heap.size W W') ∨
  ∃ E' F':Nat,E = (E':Int)∧F = (F':Int)∧Fo E' F'∧∀ W:World,Calls Tryz.prog 45 #[.agg #[.int .i64 (E':Int),.int .i64 (F':Int)]] W fun e W'=>e = .returned (.int .i64 0)∧Below W.heap.size W W':=by
 rcases fo_cases5 E F with hb|⟨E',F',rfl,rfl,h0⟩
 ·exact Or.inl ⟨hb,fun W=>dchf_is W E F 5 (hide fun W=>Value_form E F hb 0 W)⟩
 ·refine Or.inr ⟨E',F',rfl,rfl,h0,fun W=>dchf_is W E' F' 0 (hide fun W=>?_)⟩
  have hB:Bt E' F' 0 false 0 0:=⟨Nat.pow_pos (by decide),Nat.pow_pos (by decide),by simp⟩
  exact Value_zero E' F' (2 ^ (E' - 1) - 1) 0 false W h0 (hide rfl) hB
theorem sure_place {p d B F G M K:Nat} {X:Int} {r0 ρ w:Nat} (h:Plc p d B F G M K X r0 ρ w) (hd:0 < d) {S I:Nat} (h1:pv F (2 ^ F) * d≤p * 2 ^ G) (h2:p * 2 ^ G≤pv F (I - 1) * d) (hI:0 < I) (s:Bool) :
  ∃ r g,r < I∧bitsR S I 0 s (rowR B F 0 s M K X) = (if s then S else 0)+r∧0 < g∧g * 2 ^ F≤pv F r∧2 * (p * 2 ^ G)≤2 * (pv F r * d)+g * d∧2 * (pv F r * d)≤2 * (p * 2 ^ G)+g * d:=by
 have hle:=h.le
 have hlt:=h.lt
 have ha:2 ^ F≤r0:=by
  rcases Nat.lt_or_ge r0 (2 ^ F) with h9|h9
  ·have:=Nat.mul_le_mul_right d (pv_le (F:=F) (show r0+1≤2 ^ F from h9))
   omega
  ·exact h9
 have hb:r0≤I - 1:=by
  rcases Nat.lt_or_ge (I - 1) r0 with h9|h9
  ·have:=Nat.mul_lt_mul_of_pos_right (pv_lt (F:=F) h9) hd
   omega
  ·exact h9
 obtain ⟨g,g0,g1,g2⟩:∃ g,0 < g∧pv F (r0+1) = pv F r0+g∧g * 2 ^ F≤pv F r0:=by
  obtain ⟨k,c,rfl,c1,c2⟩:=pv_parts F r0
  refine ⟨2 ^ k,Nat.pow_pos (by decide),?_,?_⟩
  ·rw [pv_row (by omega) c2,Nat.add_assoc,pv_row (by omega) (by omega),Nat.add_mul,Nat.one_mul]
  ·rw [pv_row (by omega) c2,Nat.mul_comm]
   refine Nat.mul_le_mul_right _ ?_
   rcases c2 with rfl|c2
   ·omega
   ·exact c2
 have hdist:=Nat.add_mul (pv F r0) g d
 rw [← g1] at hdist
 by_cases hρ:ρ = 0
 ·have hr:rowR B F 0 s M K X = r0:=by rw [h.row,if_pos hρ]; omega
  have he:=h.eq.1 hρ
  refine ⟨r0,g,by omega,?_,g0,g2,by omega,by omega⟩
  unfold bitsR; rw [hr,if_pos (show r0 < I by omega)]
 ·have hne:pv F r0 * d < p * 2 ^ G:=Nat.lt_of_le_of_ne hle fun e=>hρ (h.eq.2 e)
  have hr1:r0 < I - 1:=by
   rcases Nat.lt_or_ge r0 (I - 1) with h9|h9
   ·exact h9
   ·obtain rfl:r0 = I - 1:=by omega
    omega
  have hh:=h.half
  unfold s3 at hh
  rw [Nat.add_mul,g1,Nat.add_mul] at hh
  cases hf:fth 0 s (decide (r0 % 2 = 1)) (hlf ρ w) with
  | false=>
   have hr:rowR B F 0 s M K X = r0:=by rw [h.row,if_neg hρ,hf]; rfl
   have hc:2 * (p * 2 ^ G)≤2 * (pv F r0 * d)+g * d:=by
    rcases Nat.lt_or_ge (2 * (pv F r0 * d)+g * d) (2 * (p * 2 ^ G)) with h9|h9
    ·rw [if_neg (by omega),if_neg (by omega)] at hh
     rw [hh,fth_hi] at hf; cases hf
    ·exact h9
   refine ⟨r0,g,by omega,?_,g0,g2,hc,by omega⟩
   unfold bitsR; rw [hr,if_pos (show r0 < I by omega)]
  | true=>
   have hr:rowR B F 0 s M K X = r0+1:=by rw [h.row,if_neg hρ,hf]; rfl
   have hc:2 * (pv F r0 * d)+g * d≤2 * (p * 2 ^ G):=by
    rcases Nat.lt_or_ge (2 * (p * 2 ^ G)) (2 * (pv F r0 * d)+g * d) with h9|h9
    ·rw [if_pos (by omega)] at hh
     rw [hh,fth_lo] at hf; cases hf
    ·exact h9
   refine ⟨r0+1,g,by omega,?_,g0,by omega,by omega,by omega⟩
   unfold bitsR; rw [hr,if_pos (show r0+1 < I by omega)]
theorem sure_near {x d P g N D T t:Nat} (hd:0 < d) (hg:0 < g) (hN:0 < N) (hx:x * N = D * P * d) (h1:2 * x≤2 * (P * d)+g * d) (h2:2 * (P * d)≤2 * x+g * d) (hT:g * T≤P) (ht:t < T):2 * t * D < 2 * t * N+N∧2 * t * N < 2 * t * D+N:=by
 have hP:0 < P:=by
  have:=Nat.mul_pos hg (show 0 < T by omega)
  omega
 have a1:2 * (P * D)≤2 * (P * N)+g * N:=by
  have k:=Nat.mul_le_mul_right N h1
  have e1:2 * x * N = 2 * (P * D) * d:=by rw [Nat.mul_assoc,hx]; grind
  have e2:(2 * (P * d)+g * d) * N = (2 * (P * N)+g * N) * d:=by grind
  rw [e1,e2] at k
  exact Nat.le_of_mul_le_mul_right k hd
 have a2:2 * (P * N)≤2 * (P * D)+g * N:=by
  have k:=Nat.mul_le_mul_right N h2
  have e1:(2 * x+g * d) * N = (2 * (P * D)+g * N) * d:=by
   have:2 * x * N = 2 * (P * D) * d:=by rw [Nat.mul_assoc,hx]; grind
   rw [Nat.add_mul,this]; grind
  have e2:2 * (P * d) * N = 2 * (P * N) * d:=by grind
  rw [e1,e2] at k
  exact Nat.le_of_mul_le_mul_right k hd
 have key:∀ A C:Nat,2 * (P * A)≤2 * (P * C)+g * N→2 * t * A < 2 * t * C+N:=fun A C h=>by
  rcases Nat.lt_or_ge C A with h9|h9
  ·obtain ⟨e,rfl⟩:∃ e,A = C+e:=⟨A - C,by omega⟩
   have b1:2 * (P * e)≤g * N:=by rw [Nat.mul_add] at h; omega
   have b2:g * T * e≤P * e:=Nat.mul_le_mul_right _ hT
   have b3:g * (2 * (T * e))≤g * N:=by
    have:g * (2 * (T * e)) = 2 * (g * T * e):=by grind
    omega
   have b4:=Nat.le_of_mul_le_mul_left b3 hg
   have b5:t * e < T * e:=Nat.mul_lt_mul_of_pos_right ht (by omega)
   have b6:2 * t * (C+e) = 2 * t * C+2 * (t * e):=by grind
   omega
  ·have:=Nat.mul_le_mul_left (2 * t) h9
   omega
 exact ⟨key D N a1,key N D a2⟩
theorem sure_same {A N o1 o2 n:Nat} (hA:A < 10 ^ n) (hN:N < 10 ^ n) (ho:o1 = 0∨o2 = 0) (h1:2 * 10 ^ n * (A * 10 ^ o2) < 2 * 10 ^ n * (N * 10 ^ o1)+N * 10 ^ o1) (h2:2 * 10 ^ n * (N * 10 ^ o1) < 2 * 10 ^ n * (A * 10 ^ o2)+N * 10 ^ o1):A * 10 ^ o2 = N * 10 ^ o1:=by
 generalize hT:10 ^ n = T at *
 have big:∀ a b:Nat,a < b→T * a+T≤T * b:=fun a b h=>by
  have:=Nat.mul_le_mul_left T (show a+1≤b from h)
  rw [Nat.mul_add,Nat.mul_one] at this; exact this
 generalize hX:A * 10 ^ o2 = x at *
 generalize hV:N * 10 ^ o1 = v at *
 rw [Nat.mul_assoc,Nat.mul_assoc] at h1 h2
 rcases Nat.lt_trichotomy x v with h|h|h
 ·have k:=big x v h
  rcases ho with rfl|rfl
  ·rw [Nat.pow_zero,Nat.mul_one] at hV
   omega
  ·rw [Nat.pow_zero,Nat.mul_one] at hX
   obtain ⟨e,rfl⟩:∃ e,v = x+e:=⟨v - x,by omega⟩
   have he:e≤T * e:=Nat.le_mul_of_pos_left _ (by omega)
   rw [Nat.mul_add] at k h2
   have:T≤T * e:=by omega
   omega
 ·exact h
 ·have k:=big v x h
  rcases ho with rfl|rfl
  ·rw [Nat.pow_zero,Nat.mul_one] at hV
   omega
  ·rw [Nat.pow_zero,Nat.mul_one] at hX
   omega
theorem sure_cut {A N o1 o2 n c Q R:Nat} (hn:1≤n) (hA:A < 10 ^ n) (hQ:Q < 10 ^ n) (hNQ:N = Q * 10 ^ c+R) (hR0:0 < R) (hR:R < 10 ^ c) (hlow:10 ^ (n - 1) * 10 ^ c≤N) (h1:2 * 10 ^ n * (A * 10 ^ o2) < 2 * 10 ^ n * (N * 10 ^ o1)+N * 10 ^ o1) (h2:2 * 10 ^ n * (N * 10 ^ o1) < 2 * 10 ^ n * (A * 10 ^ o2)+N * 10 ^ o1) :
  (2 * R < 10 ^ c∧A * 10 ^ o2 = Q * 10 ^ (c+o1))∨(10 ^ c < 2 * R∧A * 10 ^ o2 = (Q+1) * 10 ^ (c+o1)):=by
 have hO:0 < 10 ^ o1:=Nat.pow_pos (by decide)
 obtain ⟨T,hT⟩:∃ T,10 ^ n = T:=⟨_,rfl⟩
 have hT1:1≤T:=by rw [← hT]; exact Nat.pow_pos (by decide)
 have hU:10 ^ c * 10 ^ o1 = 10 ^ (c+o1):=(Nat.pow_add ..).symm
 have hlow2:10 ^ (n - 1) * 10 ^ (c+o1)≤N * 10 ^ o1:=by rw [← hU,← Nat.mul_assoc]; exact Nat.mul_le_mul_right _ hlow
 have hNU:N * 10 ^ o1 = Q * 10 ^ (c+o1)+R * 10 ^ o1:=by rw [hNQ,Nat.add_mul,Nat.mul_assoc,hU]
 have hRU:R * 10 ^ o1 < 10 ^ (c+o1):=by rw [← hU]; exact Nat.mul_lt_mul_of_pos_right hR hO
 have hR1:0 < R * 10 ^ o1:=Nat.mul_pos hR0 hO
 have ho:c+o1≤o2:=by
  rcases Nat.lt_or_ge o2 (c+o1) with h9|h9
  ·exfalso
   have hB:T * 10 ^ o2≤10 ^ (n - 1) * 10 ^ (c+o1):=by
    rw [← hT]
    obtain ⟨m,rfl⟩:∃ m,n = m+1:=⟨n - 1,by omega⟩
    rw [Nat.add_sub_cancel,Nat.pow_succ,Nat.mul_assoc,Nat.mul_comm 10,← Nat.pow_succ]
    exact Nat.mul_le_mul_left _ (Nat.pow_le_pow_right (by decide) h9)
   have hAT:A * 10 ^ o2+10 ^ o2≤T * 10 ^ o2:=by
    have:=Nat.mul_le_mul_right (10 ^ o2) (show A+1≤T by omega)
    rw [Nat.add_mul,Nat.one_mul] at this; exact this
   rw [hT] at h1 h2
   generalize hu:10 ^ o2 = u at *
   generalize A * u = x at *
   generalize N * 10 ^ o1 = v at *
   obtain ⟨e,rfl⟩:∃ e,v = x+e:=⟨v - x,by omega⟩
   have he:u≤e:=by omega
   have k1:T * u≤T * e:=Nat.mul_le_mul_left _ he
   have k2:e≤T * e:=Nat.le_mul_of_pos_left _ hT1
   rw [Nat.mul_assoc,Nat.mul_assoc,Nat.mul_add] at h2
   omega
  ·exact h9
 obtain ⟨z,hz⟩:∃ z,o2 = z+(c+o1):=⟨o2 - (c+o1),by omega⟩
 have hx:A * 10 ^ o2 = A * 10 ^ z * 10 ^ (c+o1):=by rw [hz,Nat.pow_add,Nat.mul_assoc]
 rw [hx] at h1 h2 ⊢
 generalize A * 10 ^ z = k at *
 have hQT:(Q+1) * 10 ^ (c+o1)≤T * 10 ^ (c+o1):=Nat.mul_le_mul_right _ (by omega)
 have hRR:∀ b:Nat,(2 * R < 10 ^ c↔2 * (R * 10 ^ o1) < 10 ^ (c+o1))∧(10 ^ c < 2 * R↔10 ^ (c+o1) < 2 * (R * 10 ^ o1)):=fun _=>by
  rw [← hU,← Nat.mul_assoc]
  exact ⟨(Nat.mul_lt_mul_right hO).symm,(Nat.mul_lt_mul_right hO).symm⟩
 obtain ⟨r1,r2⟩:=hRR 0
 rw [r1,r2]
 rw [hT] at h1 h2
 generalize R * 10 ^ o1 = R' at *
 generalize N * 10 ^ o1 = v at *
 have hU0:0 < 10 ^ (c+o1):=Nat.pow_pos (by decide)
 generalize 10 ^ (c+o1) = U at *
 clear r1 r2 hRR hlow2 hlow hNQ hx hz hU
 rw [Nat.add_mul,Nat.one_mul] at hQT
 have hv:v < T * U:=by omega
 have m1:2 * T * (k * U) = T * (2 * (k * U)):=by grind
 have m2:2 * T * v = T * (2 * v):=by grind
 rw [m1,m2] at h1 h2
 have c1:2 * (k * U) < 2 * v+U:=by
  refine Nat.lt_of_mul_lt_mul_left (a:=T) ?_
  rw [Nat.mul_add]; omega
 have c2:2 * v < 2 * (k * U)+U:=by
  refine Nat.lt_of_mul_lt_mul_left (a:=T) ?_
  rw [Nat.mul_add]; omega
 have hk:k = Q∨k = Q+1:=by
  rcases Nat.lt_or_ge k Q with h9|h9
  ·have:=Nat.mul_le_mul_right U (show k+1≤Q from h9)
   rw [Nat.add_mul,Nat.one_mul] at this
   omega
  ·rcases Nat.lt_or_ge (Q+1) k with h8|h8
   ·have:=Nat.mul_le_mul_right U (show Q+2≤k from h8)
    rw [Nat.add_mul] at this
    omega
   ·omega
 rcases hk with rfl|rfl
 ·exact Or.inl ⟨by omega,rfl⟩
 ·rw [Nat.add_mul,Nat.one_mul] at c1 c2 ⊢
  exact Or.inr ⟨by omega,rfl⟩
theorem sure_any {E F:Nat} (h0:Fo E F) (hC:∀ W:World,Calls Tryz.prog 45 #[.agg #[.int .i64 (E:Int),.int .i64 (F:Int)]] W fun e W'=>e = .returned (.int .i64 0)∧Below W.heap.size W W') :
  ∃ n:Nat,n≤20∧(1≤n→10 ^ n < 2 ^ F)∧∀ W:World,Calls Tryz.prog 22 #[.agg #[.int .i64 (E:Int),.int .i64 (F:Int)]] W fun e W'=>e = .returned (.tuple #[.int .i64 (n:Int),.int .i64 0])∧Below W.heap.size W W':=by
 have hF:=h0.f52
 have hF1:=h0.f1
 have hT:2 ^ F≤2 ^ 52:=Nat.pow_le_pow_right (by decide) hF
 have hT1:2 ^ 1≤2 ^ F:=Nat.pow_le_pow_right (by decide) hF1
 obtain ⟨q,hq,h1,h2⟩:=least_ten (2 ^ F - 1) (by omega) (by omega)
 have hq1:1≤q:=by
  rcases Nat.eq_zero_or_pos q with rfl|h
  ·rw [Nat.pow_zero] at h1; omega
  ·exact h
 obtain ⟨n,rfl⟩:∃ n,q = n+1:=⟨q - 1,by omega⟩
 refine ⟨n,by omega,fun h3=>by have:=h2 n (by omega); omega,fun W=>?_⟩
 have:=dsu_ok W E F n (2 ^ F) (fun j=>10 ^ (j+1)) rfl (fun j _=>Nat.pow_succ ..) (fun j hj=>by have:=h2 (j+1) (by omega); show 10 ^ (j+1) < 2 ^ F; omega) (by show 2 ^ F≤10 ^ (n+1); omega) (by omega) (by omega) (by
  rw [show min (F:Int).toNat 64 = F by omega,Int.one_mul,IntKind.wrap_u64]
  have e1:((2:Int) ^ F) = ((2 ^ F:Nat):Int):=by simp
  rw [e1]
  omega) (hide hC)
 rw [Nat.sub_zero] at this
 exact this
def sTx (nm:Nat):Nat→ByteArray
 | 0=>⟨#[]⟩
 | j+1=>sTx nm j ++ ⟨#[UInt8.ofNat (48+((nm / 10 ^ j % 10:Nat):Int)).toNat]⟩
theorem sTx_ok (nm:Nat):∀ j,AllD (sTx nm j) (sTx nm j).size∧(sTx nm j).size = j
 | 0=>⟨fun j hj=>absurd hj (by show ¬ j < 0; omega),rfl⟩
 | j+1=>by
  obtain ⟨h1,h2⟩:=sTx_ok nm j
  have hd:AllD (⟨#[UInt8.ofNat (48+((nm / 10 ^ j % 10:Nat):Int)).toNat]⟩:ByteArray) (⟨#[UInt8.ofNat (48+((nm / 10 ^ j % 10:Nat):Int)).toNat]⟩:ByteArray).size:=by
   rw [alld_mem]
   intro b hb
   obtain rfl:b = UInt8.ofNat (48+((nm / 10 ^ j % 10:Nat):Int)).toNat:=by simpa using hb
   rw [UInt8.toNat_ofNat']
   omega
  obtain ⟨c1,c2,-⟩:=dg_cat h1 hd
  exact ⟨c1,by rw [sTx,c2,h2]; rfl⟩
theorem ord_le {p d p' d':Nat} {hd:0 < d} {hg:Nat.gcd p d = 1} {hd':0 < d'} {hg':Nat.gcd p' d' = 1} (h:ordR (rq false p d hd hg) (rq false p' d' hd' hg')≤0):p * d'≤p' * d:=by
 rcases Nat.lt_or_ge (p' * d) (p * d') with h9|h9
 ·have h1:Rm.sgn false p' * (d:Int) < Rm.sgn false p * (d':Int):=by
   show (p':Int) * d < (p:Int) * d'
   exact_mod_cast h9
  rw [ord_gt_of h1] at h
  omega
 ·exact h9
theorem WrQ.pos_f {F G r va da:Nat} {sa:Bool} (hq:WrQ F G false r sa va da):sa = false:=by
 cases sa
 ·rfl
 ·have h1:=hq.sg
  have h2:=hq.h0 rfl
  unfold Rm.sgn at h1
  simp at h1
  omega
theorem dq_two {g f f':Bool} {D R S R' S':Nat} {y:Int} (hS:S≠0) (hS':S'≠0) (h1:dq false D y = mkRat (Rm.sgn f R) S) (h2:dq g D y = mkRat (Rm.sgn f' R') S'):R * S' = R' * S:=by
 rw [dq_mk,Rat.mkRat_eq_iff (ten_ne _) hS] at h1
 rw [dq_mk,Rat.mkRat_eq_iff (ten_ne _) hS'] at h2
 have k1:=congrArg Int.natAbs h1
 have k2:=congrArg Int.natAbs h2
 simp only [Int.natAbs_mul,Rm.sgn_abs,Int.natAbs_natCast] at k1 k2
 refine Nat.eq_of_mul_eq_mul_right (Nat.pow_pos (n:=(-y).toNat) (show 0 < 10 by decide)) ?_
 generalize 10 ^ (-y).toNat = B at *
 generalize 10 ^ y.toNat = A at *
 calc R * S' * B = (R * B) * S':=by grind
  _ = D * A * S * S':=by rw [k1]
  _ = (D * A * S') * S:=by grind
  _ = R' * B * S:=by rw [k2]
  _ = R' * S * B:=by grind
theorem form_top {E F S I:Nat} (h:Fm E F S I):2 ^ F < I∧I - 1 < I∧Bt E F (2 ^ F) false 1 0∧Bt E F (I - 1) false (2 ^ E - 2) (2 ^ F - 1):=by
 have hE:2 ^ 2≤2 ^ E:=Nat.pow_le_pow_right (by omega) h.fo.e2
 have hP:0 < 2 ^ F:=Nat.pow_pos (by decide)
 have hI:=h.hI
 obtain ⟨q,hq⟩:∃ q,2 ^ E = q+2:=⟨2 ^ E - 2,by omega⟩
 have h1:I = q * 2 ^ F+2 ^ F:=by rw [hI,hq,show q+2 - 1 = q+1 by omega,Nat.add_mul,Nat.one_mul]
 have h2:1 * 2 ^ F≤q * 2 ^ F:=Nat.mul_le_mul_right _ (by omega)
 refine ⟨by omega,by omega,⟨hP,by omega,by simp⟩,⟨by omega,by omega,?_⟩⟩
 rw [hq,Nat.add_sub_cancel,h1]
 simp; omega
theorem within_any {E F S I B G:Nat} (h:Fm E F S I) (hB:B = 2 ^ (E - 1) - 1) (hG:(G:Int) = (B:Int)+(F:Int) - 1) (g:Bool) {s3:ByteArray} {x3:Int} (hD:DcOk s3 x3) (h0:s3.size≠0) (hs:s3.size≤1500) (hx:x3.natAbs≤4000) :
  ∃ (inn:Bool) (R S':Nat),dq false (valS s3) x3 = mkRat (Rm.sgn false R) S'∧0 < S'∧(inn = true→pv F (2 ^ F) * S'≤R * 2 ^ G∧R * 2 ^ G≤pv F (I - 1) * S') ∧
   ∀ W:World,Tb W→Calls Tryz.prog 24 #[.agg #[.int .i64 (E:Int),.int .i64 (F:Int)],.agg #[.bool g,.string s3,.int .i64 x3]] W fun e W'=>e = .returned (.tuple #[.bool inn,.bool true])∧Below W.heap.size W W':=by
 obtain ⟨t1,t2,t3,t4⟩:=form_top h
 obtain ⟨sa1,m1,x1,i1,j1,hV1,hO1,hi1,hj1,hq1⟩:=value_place h hB hG false t1
 obtain ⟨sa2,m2,x2,i2,j2,hV2,hO2,hi2,hj2,hq2⟩:=value_place h hB hG false t2
 obtain rfl:=hq1.pos_f
 obtain rfl:=hq2.pos_f
 obtain ⟨f,R,S',hQ,hR,hS,hc⟩:=dx_ratio false (K:=100000) hD (by omega) (by decide)
 have hv:0 < valS s3:=by have:=dx_low hD h0; omega
 have hR0:0 < R:=by
  rcases Nat.eq_zero_or_pos R with rfl|h9
  ·have h8:=hQ.rat
   rw [show Rm.sgn f 0 = 0 from Rm.sgn_zero f,Rat.zero_mkRat] at h8
   exact absurd h8 (dq_nz false x3 (by omega))
  ·exact h9
 obtain rfl:f = false:=dq_sign hv hR0 hQ.pos hQ.rat
 have hA:wqA = 1300:=rfl
 have hBq:wqB = 2100:=rfl
 have big:∀ a b e:Nat,a < 2 ^ e→b < 2 ^ 100000→e≤3000→¬ Over (a * b):=fun a b e h1 h2 h3=>by
  refine over_two (e:=e+100000) ?_ (by omega)
  rw [Nat.pow_add]
  exact Nat.mul_lt_mul'' h1 h2
 have o1:=big _ _ _ hq1.bv hS (by omega)
 have o2:¬ Over (R * (1 * 2 ^ j1)):=by rw [Nat.mul_comm]; exact big _ _ _ hq1.bd hR (by omega)
 have o3:¬ Over (R * (1 * 2 ^ j2)):=by rw [Nat.mul_comm]; exact big _ _ _ hq2.bd hR (by omega)
 have o4:=big _ _ _ hq2.bv hS (by omega)
 have HC1:=hide fun (W:World) (a:Option Addr) (n c:Nat) (b:Option Addr) (k l:Nat) (a':Option Addr) (n' c':Nat) (b':Option Addr) (k' l':Nat) (g1:Num W a n (m1 * 2 ^ i1)) (g2:Num W b k (1 * 2 ^ j1)) (g3:Num W a' n' R) (g4:Num W b' k' S')=>cmp_nums (s:=false) (t:=false) hq1.hd hq1.hg (fun h=>absurd h (by decide)) hQ.pos hQ.co (fun h=>absurd h (by decide)) o1 o2 W a n c b k l a' n' c' b' k' l' g1 g2 g3 g4
 have HC2:=hide fun (W:World) (a:Option Addr) (n c:Nat) (b:Option Addr) (k l:Nat) (a':Option Addr) (n' c':Nat) (b':Option Addr) (k' l':Nat) (g1:Num W a n R) (g2:Num W b k S') (g3:Num W a' n' (m2 * 2 ^ i2)) (g4:Num W b' k' (1 * 2 ^ j2))=>cmp_nums (s:=false) (t:=false) hQ.pos hQ.co (fun h=>absurd h (by decide)) hq2.hd hq2.hg (fun h=>absurd h (by decide)) o3 o4 W a n c b k l a' n' c' b' k' l' g1 g2 g3 g4
 obtain ⟨c1,hc1⟩:∃ c,ordR (rq false (m1 * 2 ^ i1) (1 * 2 ^ j1) hq1.hd hq1.hg) (rq false R S' hQ.pos hQ.co) = c:=⟨_,rfl⟩
 obtain ⟨c2,hc2⟩:∃ c,ordR (rq false R S' hQ.pos hQ.co) (rq false (m2 * 2 ^ i2) (1 * 2 ^ j2) hq2.hd hq2.hg) = c:=⟨_,rfl⟩
 rw [hc1] at HC1
 rw [hc2] at HC2
 have HN:=hide fun W:World=>Normal_ok E F (2 ^ F) false h.fo t3 W
 have HG:=hide fun W:World=>Greatest_ok E F (I - 1) (2 ^ E - 2) (2 ^ F - 1) false h.fo t4 (hide (by have:2 ^ 2≤2 ^ E:=Nat.pow_le_pow_right (by omega) h.fo.e2; omega)) (hide rfl) W
 have e1:(if (false:Bool) = true then S else 0)+2 ^ F = 2 ^ F:=by simp
 have e2:(if (false:Bool) = true then S else 0)+(I - 1) = I - 1:=by simp
 rw [e1] at hV1
 rw [e2] at hV2
 have HR1:=hide fun (W:World) (A:Option Addr) (N C:Nat) (g:Num W A N m1)=>ratio_place hO1 hi1 hj1 hq1 W A N C g
 have HR2:=hide fun (W:World) (A:Option Addr) (N C:Nat) (g:Num W A N m2)=>ratio_place hO2 hi2 hj2 hq2 W A N C g
 refine ⟨decide (c1≤0) && decide (c2≤0),R,S',hQ.rat,hQ.pos,fun hin=>?_,fun W hT=>dwith_is W E F (2 ^ F) (I - 1) m1 m2 _ _ _ _ R S' x1 x2 c1 c2 x3 g _ _ s3 rfl rfl hT HN HG (hide hV1) (hide hV2) HR1 HR2 (hide hc) HC1 HC2⟩
 rw [Bool.and_eq_true,decide_eq_true_eq,decide_eq_true_eq] at hin
 obtain ⟨h1,h2⟩:=hin
 refine ⟨?_,?_⟩
 ·have k1:=ord_le (hc1▸h1)
  have k2:=hq1.eq
  refine Nat.le_of_mul_le_mul_right ?_ hq1.hd
  calc pv F (2 ^ F) * S' * (1 * 2 ^ j1) = pv F (2 ^ F) * (1 * 2 ^ j1) * S':=Nat.mul_right_comm ..
   _ = m1 * 2 ^ i1 * 2 ^ G * S':=by rw [k2]
   _ = m1 * 2 ^ i1 * S' * 2 ^ G:=Nat.mul_right_comm ..
   _≤R * (1 * 2 ^ j1) * 2 ^ G:=Nat.mul_le_mul_right _ k1
   _ = R * 2 ^ G * (1 * 2 ^ j1):=Nat.mul_right_comm ..
 ·have k1:=ord_le (hc2▸h2)
  have k2:=hq2.eq
  refine Nat.le_of_mul_le_mul_right ?_ hq2.hd
  calc R * 2 ^ G * (1 * 2 ^ j2) = R * (1 * 2 ^ j2) * 2 ^ G:=Nat.mul_right_comm ..
   _≤m2 * 2 ^ i2 * S' * 2 ^ G:=Nat.mul_le_mul_right _ k1
   _ = m2 * 2 ^ i2 * 2 ^ G * S':=Nat.mul_right_comm ..
   _ = pv F (I - 1) * (1 * 2 ^ j2) * S':=by rw [k2]
   _ = pv F (I - 1) * S' * (1 * 2 ^ j2):=Nat.mul_right_comm ..
theorem mk_one (g:Bool) (z:Nat) (x:Int) (h1:-1000≤x+(z:Int)) (h2:x+(z:Int)≤1000):MkA g (10 ^ z) x (.tuple #[.agg #[.bool g,.string ⟨#[49]⟩,.int .i64 (x+(z:Int))],.int .i64 0]):=
 Or.inr ⟨⟨#[49]⟩,1,z,(Nat.one_mul _).symm,by decide,says_1,Or.inr ⟨by omega,rfl⟩⟩
theorem alive_form:∀ W:World,Calls Tryz.prog 45 #[.agg #[.int .i64 ((5:Nat):Int),.int .i64 ((10:Nat):Int)]] W fun e W'=>e = .returned (.int .i64 0)∧Below W.heap.size W W':=by
 rcases form_value 5 10 with ⟨hb,_⟩|⟨E,F,h1,h2,_,hC⟩
 ·unfold NoFo at hb; omega
 ·obtain rfl:E = 5:=by omega
  obtain rfl:F = 10:=by omega
  exact hC
theorem alive_enough (W:World):Calls Tryz.prog 19 #[.agg #[.int .i64 5,.int .i64 10]] W fun e W'=>e = .returned (.tuple #[.int .i64 5,.int .i64 0])∧Below W.heap.size W W':=
 den_ok W 5 10 4 2048 (fun j=>10 ^ j) (by decide) rfl (fun j _=>Nat.pow_succ ..) (fun j hj=>by
  have:10 ^ j≤10 ^ 3:=Nat.pow_le_pow_right (by decide) (by omega)
  show 10 ^ j≤2048; omega) (by decide) (by decide) (by decide) (by decide) (hide alive_form)
theorem alive_sure (W:World):Calls Tryz.prog 22 #[.agg #[.int .i64 5,.int .i64 10]] W fun e W'=>e = .returned (.tuple #[.int .i64 3,.int .i64 0])∧Below W.heap.size W W':=
 dsu_ok W 5 10 3 1024 (fun j=>10 ^ (j+1)) rfl (fun j _=>Nat.pow_succ ..) (fun j hj=>by
  have:10 ^ (j+1)≤10 ^ 3:=Nat.pow_le_pow_right (by decide) (by omega)
  show 10 ^ (j+1) < 1024; omega) (by decide) (by decide) (by decide) (by decide) (hide alive_form)
theorem alive_round (W:World):Calls Tryz.prog 17 #[.agg #[.bool false,.string ⟨#[57,57,57,55,53,53,56,53,57,51,55,53]⟩,.int .i64 (-13)],.int .i64 3,.int .u8 0] W fun e W'=>e = .returned (.tuple #[.agg #[.bool false,.string ⟨#[49]⟩,.int .i64 (-1)],.bool false,.int .i64 0])∧Below W.heap.size W W':=by
 have hD:=dglit_a.dc (by decide) (by decide) (y:=-13) (by decide) (by decide)
 rcases round_num false _ (-13) 3 0 hD (by decide) (by decide) (by decide) (hD.chk false) with ⟨h,_⟩|⟨c,Q,R,up,g2,s2,x2,e2,k1,k2,k3,k4,k5,hc⟩
 ·rw [dglit_a.sz] at h; omega
 ·rw [dglit_a.sz] at k1
  obtain rfl:c = 9:=by omega
  have hv:=k3.val
  have hl:=k3.lt
  rw [dglit_a.val] at hv
  have hQ:Q = 999∧R = 755859375:=by
   have e9:(10:Nat) ^ 9 = 1000000000:=by decide
   rw [e9] at hv hl; omega
  obtain ⟨rfl,rfl⟩:=hQ
  have hu:=k3.up
  rw [show cmpZ ((755859375:Nat):Int) ((5 * 10 ^ (9 - 1):Nat):Int) = 1 by decide] at hu
  obtain rfl:up = true:=by rw [hu]; decide
  have:=k5.uniq (mk_one false 3 (-13+((9:Nat):Int)) (by decide) (by decide))
  simp only [Value.tuple.injEq,Array.mk.injEq,List.cons.injEq,Value.agg.injEq,Value.bool.injEq,Value.string.injEq,Value.int.injEq,and_true,true_and] at this
  obtain ⟨⟨rfl,rfl,rfl⟩,rfl⟩:=this
  exact hc W
theorem alive_places (W:World):Calls Tryz.prog 18 #[.agg #[.bool true,.string ⟨#[53,57,54,48,52,54,52,52,55,55,53,51,57,48,54,50,53]⟩,.int .i64 (-24)],.int .i64 3,.int .u8 4] W fun e W'=>e = .returned (.tuple #[.agg #[.bool true,.string ⟨#[49]⟩,.int .i64 (-3)],.bool false,.int .i64 0])∧Below W.heap.size W W':=by
 have hD:=dglit_b.dc (by decide) (by decide) (y:=-24) (by decide) (by decide)
 rcases places_num true _ (-24) 3 4 hD (by decide) (by decide) (hD.chk true) with ⟨h,_⟩|⟨c,Q,R,up,g2,s2,x2,e2,k1,k2,k3,k4,k5,hc⟩
 ·omega
 ·obtain rfl:c = 21:=by omega
  rw [dglit_b.sz] at k4
  obtain rfl:Q = 0:=by
   have e0:(10:Nat) ^ (17 - 21) = 1:=by decide
   rw [e0] at k4; omega
  have hu:=k3.up
  obtain rfl:up = true:=by rw [hu]; rfl
  have:=k5.uniq (mk_one true 0 (-24+((21:Nat):Int)) (by decide) (by decide))
  simp only [Value.tuple.injEq,Array.mk.injEq,List.cons.injEq,Value.agg.injEq,Value.bool.injEq,Value.string.injEq,Value.int.injEq,and_true,true_and] at this
  obtain ⟨⟨rfl,rfl,rfl⟩,rfl⟩:=this
  exact hc W
theorem dgalive2_any (W:World) (hT:Tb W) (htp:Tpw W):Calls Tryz.prog 7 #[] W fun e W'=>e = .returned (.bool true)∧Below W.heap.size W W':=by
 have H1:=hide fun (W:World) (hT:Tb W) (htp:Tpw W)=>dg_known false (r:=11878) (by decide) dglit_a (k:=13) (p:=1677312) (by decide) (by decide) (by decide) (by decide) (by kernel_rfl) (by kernel_rfl) 11878 (by simp) W hT htp
 have H0:=hide fun (W:World) (hT:Tb W) (htp:Tpw W)=>dg_known true (r:=1) (by decide) dglit_b (k:=24) (p:=1) (by decide) (by decide) (by decide) (by decide) (by kernel_rfl) (by kernel_rfl) 32769 (by simp) W hT htp
 have H2:=hide fun (W:World) (hT:Tb W) (htp:Tpw W)=>dsome_ok W 5 10 11878 3 0 false false false ⟨#[57,57,57,55,53,53,56,53,57,51,55,53]⟩ ⟨#[49]⟩ (-13) (-1) 0 hT htp H1 (hide alive_round)
 have H3:=hide fun (W:World) (hT:Tb W) (htp:Tpw W)=>dplaces_ok W 5 10 32769 3 4 true true false ⟨#[53,57,54,48,52,54,52,52,55,55,53,51,57,48,54,50,53]⟩ ⟨#[49]⟩ (-24) (-3) 0 hT htp H0 (hide alive_places)
 exact dalive_is W hT htp H1 H2 H3 (hide alive_enough) (hide alive_sure)
theorem dall_rat {F G r va j:Nat} {s sa:Bool} {t:ByteArray} {y:Int} (hq:WrQ F G s r sa va (1 * 2 ^ j)) (hw:dq s (valS t) y = dq s (va * 5 ^ j) (-(j:Int))):dq s (valS t) y = mkRat (Rm.sgn sa va) (1 * 2 ^ j):=by
 have hda:=hq.hd
 rw [hw,dq_mk,Rat.mkRat_eq_iff (ten_ne _) (by omega),hq.sg]
 have e3:(-(j:Int)).toNat = 0:=by omega
 have e4:(-(-(j:Int))).toNat = j:=by omega
 rw [e3,e4,Nat.pow_zero,Nat.mul_one,← Rm.sgn_scale,← Rm.sgn_scale]
 congr 1
 rw [show (10:Nat) ^ j = 2 ^ j * 5 ^ j by rw [← Nat.mul_pow],Nat.one_mul,Nat.mul_assoc,Nat.mul_comm (5 ^ j)]
theorem cmpZ_lo {a b:Nat} (h:a < b):cmpZ (a:Int) (b:Int) = -1:=by unfold cmpZ; rw [if_pos (by omega)]
theorem cmpZ_hi {a b:Nat} (h:b < a):cmpZ (a:Int) (b:Int) = 1:=by unfold cmpZ; rw [if_neg (by omega),if_pos (by omega)]
theorem round_back (s:Bool) {t s3:ByteArray} {y x3:Int} (hDt:DcOk t y) (h0:t.size≠0) (hst:t.size≤1500) (hyt:y.natAbs≤4000) (hD:DcOk s3 x3) (h3:s3.size≠0) (n:Nat) (hn:1≤n) (hn2:n≤20) (hsz:s3.size≤n) {o1 o2:Nat} {z0:Int} (hy:y = z0+(o1:Int)) (hx:x3 = z0+(o2:Int)) (ho:o1 = 0∨o2 = 0)
  (h1:2 * 10 ^ n * (valS s3 * 10 ^ o2) < 2 * 10 ^ n * (valS t * 10 ^ o1)+valS t * 10 ^ o1) (h2:2 * 10 ^ n * (valS t * 10 ^ o1) < 2 * 10 ^ n * (valS s3 * 10 ^ o2)+valS t * 10 ^ o1) :
  ∃ i5:Bool,∀ W:World,Calls Tryz.prog 17 #[.agg #[.bool s,.string t,.int .i64 y],.int .i64 (n:Int),.int .u8 0] W fun e W'=>e = .returned (.tuple #[.agg #[.bool s,.string s3,.int .i64 x3],.bool i5,.int .i64 0])∧Below W.heap.size W W':=by
 have hA:valS s3 < 10 ^ n:=by
  have:=dx_lt hD 0
  rw [Nat.pow_zero,Nat.mul_one,Nat.add_zero] at this
  exact Nat.lt_of_lt_of_le this (Nat.pow_le_pow_right (by decide) hsz)
 have hA0:0 < valS s3:=by have:=dx_low hD h3; omega
 have e1:dq s (valS t) y = dq s (valS t * 10 ^ o1) z0:=by rw [hy,dq_up]
 have e2:dq s (valS s3) x3 = dq s (valS s3 * 10 ^ o2) z0:=by rw [hx,dq_up]
 rcases round_num s t y n 0 hDt hn (by omega) (by decide) (hDt.chk s) with ⟨hle,hc⟩|⟨c,Q,R,up,g2,s2,x2,er,k1,k2,k3,k4,k5,hc⟩
 ·have hN:valS t < 10 ^ n:=by
   have:=dx_lt hDt 0
   rw [Nat.pow_zero,Nat.mul_one,Nat.add_zero] at this
   exact Nat.lt_of_lt_of_le this (Nat.pow_le_pow_right (by decide) hle)
  have hsame:=sure_same hA hN ho h1 h2
  rw [← hsame,← e2] at e1
  obtain ⟨rfl,rfl⟩:=dq_uniq hDt hD h0 h3 e1
  exact ⟨true,hc⟩
 ·have hlow:=(dx_low hDt h0).1
  have hlow2:10 ^ (n - 1) * 10 ^ c≤valS t:=by
   rw [← Nat.pow_add,show n - 1+c = t.size - 1 by omega]; exact hlow
  have hcut:=sure_cut hn hA k4 k3.val k3.pos k3.lt hlow2 h1 h2
  obtain ⟨b,rfl⟩:∃ b,c = b+1:=⟨c - 1,by omega⟩
  have hup:=k3.up
  rw [Nat.add_sub_cancel] at hup
  have hten:10 ^ (b+1) = 10 * 10 ^ b:=by rw [Nat.pow_succ,Nat.mul_comm]
  obtain ⟨N',hN',hN2,hN3⟩:∃ N',Q+(if up then 1 else 0) = N'∧valS s3 * 10 ^ o2 = N' * 10 ^ (b+1+o1)∧N'≤10 ^ n:=by
   rcases hcut with ⟨q1,q2⟩|⟨q1,q2⟩
   ·have hu:up = false:=by
     rw [hup,cmpZ_lo (show R < 5 * 10 ^ b by omega)]
     unfold gOut; simp
    subst hu
    exact ⟨Q,rfl,q2,by omega⟩
   ·have hu:up = true:=by
     rw [hup,cmpZ_hi (show 5 * 10 ^ b < R by omega)]
     unfold gOut; simp
    subst hu
    exact ⟨Q+1,rfl,q2,by omega⟩
  rw [hN'] at k5
  obtain ⟨s4,x4,d1,d2,d3,d4,d5⟩:=dx_made s N' (x:=y+((b+1:Nat):Int)) (n:=n+1) (Nat.lt_of_le_of_lt hN3 (Nat.pow_lt_pow_right (by decide) (by omega))) (by omega) (by omega) (by omega)
  have hV:=k5.uniq d1
  simp only [Value.tuple.injEq,Array.mk.injEq,List.cons.injEq,Value.agg.injEq,Value.bool.injEq,Value.string.injEq,Value.int.injEq,and_true,true_and] at hV
  obtain ⟨⟨rfl,rfl,rfl⟩,rfl⟩:=hV
  have e4:dq g2 (valS s2) x2 = dq g2 (valS s3) x3:=by
   rw [d3,dq_up,hy,dq_up,e2,hN2,Nat.mul_assoc,← Nat.pow_add]
  have n4:s2.size≠0:=fun h9=>by
   rw [dx_empty h9,dq_zero] at e4
   exact dq_nz g2 x3 (by omega) e4.symm
  obtain ⟨rfl,rfl⟩:=dq_uniq d2 hD n4 h3 e4
  exact ⟨false,hc⟩
theorem sure_back {E F S I B G:Nat} (h:Fm E F S I) (hB:B = 2 ^ (E - 1) - 1) (hG:(G:Int) = (B:Int)+(F:Int) - 1) (s:Bool) {s3:ByteArray} {x3:Int} (hD:DcOk s3 x3) (h0:s3.size≠0) (n:Nat) (hn:1≤n) (hn2:n≤20) (hsz:s3.size≤n) (hx:x3.natAbs≤4000) (hT:10 ^ n < 2 ^ F) {R0 S0:Nat} (hq0:dq false (valS s3) x3 = mkRat (Rm.sgn false R0) S0) (hS0:0 < S0) (hi1:pv F (2 ^ F) * S0≤R0 * 2 ^ G) (hi2:R0 * 2 ^ G≤pv F (I - 1) * S0) :
  ∃ (rb:Nat) (i5:Bool),(∀ W:World,Tb W→Calls Tryz.prog 21 #[.agg #[.int .i64 (E:Int),.int .i64 (F:Int)],.agg #[.bool s,.string s3,.int .i64 x3]] W fun e W'=>e = .returned (.tuple #[.int .u64 (rb:Int),.bool true])∧Below W.heap.size W W') ∧
   ∀ W:World,Tb W→Tpw W→Calls Tryz.prog 15 #[.agg #[.int .i64 (E:Int),.int .i64 (F:Int)],.int .u64 (rb:Int),.int .i64 (n:Int),.int .u8 0] W fun e W'=>e = .returned (.tuple #[.agg #[.bool s,.string s3,.int .i64 x3],.bool i5,.int .i64 0])∧Below W.heap.size W W':=by
 have hG2:=gm_le h hB hG
 have hv:0 < valS s3:=by have:=dx_low hD h0; omega
 have hP2:0 < 2 ^ G:=Nat.pow_pos (by decide)
 obtain ⟨f,R,S',hQ,hR,hS,hc⟩:=dx_ratio s (K:=100000) hD (by omega) (by decide)
 have hSp:=hQ.pos
 have hR0:0 < R:=by
  rcases Nat.eq_zero_or_pos R with rfl|h9
  ·have h8:=hQ.rat
   rw [show Rm.sgn f 0 = 0 from Rm.sgn_zero f,Rat.zero_mkRat] at h8
   exact absurd h8 (dq_nz s x3 (by omega))
  ·exact h9
 have htwo:=dq_two (by omega) (by omega) hq0 hQ.rat
 have j1:pv F (2 ^ F) * S'≤R * 2 ^ G:=by
  refine Nat.le_of_mul_le_mul_right ?_ hS0
  calc pv F (2 ^ F) * S' * S0 = pv F (2 ^ F) * S0 * S':=Nat.mul_right_comm ..
   _≤R0 * 2 ^ G * S':=Nat.mul_le_mul_right _ hi1
   _ = R0 * S' * 2 ^ G:=Nat.mul_right_comm ..
   _ = R * S0 * 2 ^ G:=by rw [htwo]
   _ = R * 2 ^ G * S0:=Nat.mul_right_comm ..
 have j2:R * 2 ^ G≤pv F (I - 1) * S':=by
  refine Nat.le_of_mul_le_mul_right ?_ hS0
  calc R * 2 ^ G * S0 = R * S0 * 2 ^ G:=Nat.mul_right_comm ..
   _ = R0 * S' * 2 ^ G:=by rw [htwo]
   _ = R0 * 2 ^ G * S':=Nat.mul_right_comm ..
   _≤pv F (I - 1) * S0 * S':=Nat.mul_le_mul_right _ hi2
   _ = pv F (I - 1) * S' * S0:=Nat.mul_right_comm ..
 obtain ⟨t1,t2,_,_⟩:=form_top h
 obtain ⟨c1,hc1⟩:∃ c,c = 1076:=⟨_,rfl⟩
 obtain ⟨c2,hc2⟩:∃ c,c = 1302:=⟨_,rfl⟩
 have hb1:S'≤R * 2 ^ c1:=by
  have k1:0 < pv F (2 ^ F):=by have:=pv_lt (F:=F) (Nat.pow_pos (n:=F) (show 0 < 2 by decide)); rw [pv_zero] at this; exact this
  have k2:S'≤pv F (2 ^ F) * S':=Nat.le_mul_of_pos_left _ k1
  exact Nat.le_trans (Nat.le_trans k2 j1) (Nat.mul_le_mul_left _ (Nat.pow_le_pow_right (by decide) (by omega)))
 have hb2:R≤S' * 2 ^ c2:=by
  obtain ⟨sa2,m2,x2,i2,j2',_,_,_,_,hq2⟩:=value_place h hB hG false t2
  have k1:pv F (I - 1)≤2 ^ wqA * 2 ^ G:=by
   have k2:pv F (I - 1)≤pv F (I - 1) * (1 * 2 ^ j2'):=Nat.le_mul_of_pos_right _ hq2.hd
   rw [← hq2.eq] at k2
   exact Nat.le_trans k2 (Nat.mul_le_mul_right _ (Nat.le_of_lt hq2.bv))
  have hA:wqA = 1300:=rfl
  refine Nat.le_of_mul_le_mul_right ?_ hP2
  calc R * 2 ^ G≤pv F (I - 1) * S':=j2
   _≤2 ^ wqA * 2 ^ G * S':=Nat.mul_le_mul_right _ k1
   _ = S' * 2 ^ wqA * 2 ^ G:=by grind
   _≤S' * 2 ^ c2 * 2 ^ G:=Nat.mul_le_mul_right _ (Nat.mul_le_mul_left _ (Nat.pow_le_pow_right (by decide) (by omega)))
 obtain ⟨M,K,X,r0,ρ,w,hP,hr2⟩:=rats_all h hB hG hR0 hSp hQ.co (bl_le (bl_blen R) hR) (bl_le (bl_blen S') hS) (by have:=blen_le hb1; omega) (by have:=blen_le hb2; omega)
 obtain rfl:f = s:=dq_sign hv hR0 hSp hQ.rat
 obtain ⟨r,g,hr,hbits,hg,hgP,d1,d2⟩:=sure_place hP hSp j1 j2 (S:=S) (I:=I) (by omega) f
 have hback:=fun (W:World) (hT:Tb W)=>dback_is W E F _ _ R S' f f s3 x3 hT (hide hc) (hide fun W a n c b k l hT g1 g2=>hr2 0 f f a n c b k l W (by decide) hT g1 g2)
 rw [hbits] at hback
 obtain ⟨sa,m,x,i,j,t,y,hV,hO,hi,hj,hq,hDt,hw,h1,h2,h3,hA⟩:=dall_fin h hB hG f hr
 have hrat:=dall_rat hq hw
 have hpv:0 < pv F r:=by
  have:=Nat.mul_pos hg (show 0 < 2 ^ F from Nat.pow_pos (by decide))
  omega
 have hva:0 < m * 2 ^ i:=by
  have k:=hq.eq
  rcases Nat.eq_zero_or_pos (m * 2 ^ i) with k0|k0
  ·rw [k0,Nat.zero_mul] at k
   have:=Nat.mul_pos hpv hq.hd
   omega
  ·exact k0
 have ht0:t.size≠0:=fun h9=>by
  rw [dx_empty h9,dq_zero] at hrat
  have h8:=hrat.symm
  rw [Rat.mkRat_eq_zero (by have:=hq.hd; omega)] at h8
  have:=congrArg Int.natAbs h8
  rw [Rm.sgn_abs] at this
  simp at this; omega
 have hvt:0 < valS t:=by have:=dx_low hDt ht0; omega
 obtain ⟨z0,hz0⟩:∃ z0,min y x3 = z0:=⟨_,rfl⟩
 obtain ⟨o1,ho1⟩:∃ o:Nat,y = z0+(o:Int):=⟨(y - z0).toNat,by omega⟩
 obtain ⟨o2,ho2⟩:∃ o:Nat,x3 = z0+(o:Int):=⟨(x3 - z0).toNat,by omega⟩
 have e1:dq f (valS t * 10 ^ o1) z0 = mkRat (Rm.sgn sa (m * 2 ^ i)) (1 * 2 ^ j):=by rw [← dq_up,← ho1]; exact hrat
 have e2:dq f (valS s3 * 10 ^ o2) z0 = mkRat (Rm.sgn f R) S':=by rw [← dq_up,← ho2]; exact hQ.rat
 have hNv:0 < valS t * 10 ^ o1:=Nat.mul_pos hvt (Nat.pow_pos (by decide))
 have hxx:R * 2 ^ G * (valS t * 10 ^ o1) = valS s3 * 10 ^ o2 * pv F r * S':=by
  have k3:=dq_cross (by omega) (by have:=hq.hd; omega) e2 e1
  have k4:=hq.eq
  refine Nat.eq_of_mul_eq_mul_right hq.hd ?_
  generalize valS t * 10 ^ o1 = Nv at *
  generalize valS s3 * 10 ^ o2 = Nx at *
  calc R * 2 ^ G * Nv * (1 * 2 ^ j) = (R * Nv * (1 * 2 ^ j)) * 2 ^ G:=by grind
   _ = m * 2 ^ i * Nx * S' * 2 ^ G:=by rw [k3]
   _ = (m * 2 ^ i * 2 ^ G) * (Nx * S'):=by grind
   _ = pv F r * (1 * 2 ^ j) * (Nx * S'):=by rw [k4]
   _ = Nx * pv F r * S' * (1 * 2 ^ j):=by grind
 obtain ⟨n1,n2⟩:=sure_near hSp hg hNv hxx d1 d2 hgP hT
 obtain ⟨i5,hround⟩:=round_back f hDt ht0 (by omega) (by omega) hD h0 n hn hn2 hsz ho1 ho2 (by omega) n1 n2
 exact ⟨_,i5,hback,fun W hT htp=>dsome_ok W E F _ n 0 f f i5 t s3 y x3 0 hT htp (hide hA) (hide hround)⟩
theorem digitsSure_any (E F:Int) (neg:Bool) (nm:Nat) (ex:Int) (w:World) (htp:Tpw w) (hT:Tb w) (hb:nm < 18446744073709551616) (_e0:-9223372036854775808≤ex) (_e1:ex < 9223372036854775808) :
  Calls Tryz.prog 6 #[.agg #[.int .i64 E,.int .i64 F],.bool neg,.int .u64 (nm:Int),.int .i64 ex] w fun e w'=>e = .returned (.bool true)∧Below w.heap.size w w':=by
 have HL:=hide dgalive2_any
 rcases form_value E F with ⟨hb,hC⟩|⟨E,F,rfl,rfl,hf,hC⟩
 ·exact dsul_1 w E F ex 5 nm neg (by decide) hT htp HL (hide fun W=>dsu_e W E F 5 (by decide) (hide hC))
 obtain ⟨n,n1,n2,hS⟩:=sure_any hf hC
 rcases Nat.eq_zero_or_pos n with rfl|hn
 ·exact dsul_2 w E F ex nm neg hT htp HL (hide hS)
 have hex:-400 < Int.tmod ex 400∧Int.tmod ex 400 < 400:=by
  rcases Int.le_total 0 ex with h|h
  ·rw [Int.tmod_eq_emod_of_nonneg h]; omega
  ·obtain ⟨m,rfl⟩:∃ m:Int,ex = -m:=⟨-ex,by omega⟩
   rw [Int.neg_tmod,Int.tmod_eq_emod_of_nonneg (by omega)]; omega
 obtain ⟨u1,u2⟩:=sTx_ok nm n
 obtain ⟨V,v1,v2⟩:=dmake_c neg (sTx nm n) (Int.tmod ex 400) (by omega) (by omega) (by omega) u1
 have hvl:valS (sTx nm n) < 10 ^ n:=by
  have:=valS_lt (sTx nm n) 0 u1
  rw [Nat.pow_zero,Nat.mul_one,Nat.add_zero,u2] at this
  exact this
 obtain ⟨s3,x3,d1,d2,d3,d4,d5⟩:=dx_made neg (valS (sTx nm n)) (x:=Int.tmod ex 400) hvl (by omega) (by omega) (by omega)
 obtain rfl:=v1.uniq d1
 have HM:=hide fun W:World=>v2 W
 obtain ⟨e,he⟩:∃ e,(s3.toList == (⟨#[]⟩:ByteArray).toList) = e:=⟨_,rfl⟩
 have hdiv:∀ j,nm / 10 ^ (j+1) = nm / 10 ^ j / 10:=fun j=>by rw [Nat.pow_succ,Nat.div_div_eq_div_mul]
 have go:=fun (rb:Int) (inn i5:Bool)=>dsul_3 w E F ex rb x3 nm n neg neg e inn i5 (sTx nm) (fun j=>nm / 10 ^ j) s3 hn (by omega) rfl (by show nm / 10 ^ 0 = nm; rw [Nat.pow_zero,Nat.div_one]) (fun j _=>Nat.lt_of_le_of_lt (Nat.div_le_self ..) hb) (fun j _=>hdiv j) (fun j _=>rfl) (fun j _=>(sTx_ok nm j).2) he hT htp HL (hide hS) (by rw [Nat.sub_zero]; exact HM)
 cases e with
 | true=>exact go 0 false false (hide fun h=>absurd h (by decide)) (hide fun h=>absurd h (by decide)) (hide fun h=>absurd h (by decide))
 | false=>
  have h3:s3.size≠0:=fun h9=>by
   have h8:s3 = ⟨#[]⟩:=by
    obtain ⟨a⟩:=s3
    have h7:a.size = 0:=h9
    rw [Array.eq_empty_of_size_eq_zero h7]
   rw [h8] at he
   simp at he
  obtain ⟨B,hB⟩:∃ B,B = 2 ^ (E - 1) - 1:=⟨_,rfl⟩
  have h:Fm E F (2 ^ (F+E)) ((2 ^ E - 1) * 2 ^ F):=⟨hf,rfl,rfl⟩
  have hF1:=hf.f1
  obtain ⟨G,hG⟩:∃ G:Nat,(G:Int) = (B:Int)+(F:Int) - 1:=⟨B+F - 1,by omega⟩
  obtain ⟨inn,R0,S0,k1,k2,k3,k4⟩:=within_any h hB hG neg d2 h3 (by omega) (by omega)
  cases inn with
  | false=>exact go 0 false false (hide fun _=>k4) (hide fun _ h=>absurd h (by decide)) (hide fun _ h=>absurd h (by decide))
  | true=>
   obtain ⟨j1,j2⟩:=k3 rfl
   obtain ⟨rb,i5,b1,b2⟩:=sure_back h hB hG neg d2 h3 n hn (by omega) d4 (by omega) (n2 hn) k1 k2 j1 j2
   exact go rb true i5 (hide fun _=>k4) (hide fun _ _=>b1) (hide fun _ _=>b2)
end Go.Proofs.YteafdlblemdclaaGreatDoor
