/- Of what DigitsEnoughRow stands on: DcItoa DcNeaN DgCl0 DgCl1 SymW DcPart DcTextsLaw DbLaw SKey SOrdA RsHalfM DgLaw DgEnM. -/
import Derived.Test.YteafdlblemdclaaGreatDoorPad
import Derived.Shelf.Strconv.Itoa3
import Derived.Lib.AppendIntMem
import Derived.Test.YteafdlblemdclaaGreatDoorPbi
import Derived.Test.YteafdlblemdclaaGreatDoorPbg
import Derived.Test.YteafdlblemdclaaGreatDoorPay
import Derived.Test.YteafdlblemdclaaGreatDoorProg
import Derived.Test.YteafdlblemdclaaGreatDoorPbq
import Derived.Test.YteafdlblemdclaaGreatDoorPbh
import Derived.ChangeKeysEq
import Derived.Lib.ItoaLen
import Derived.Test.YteafdlblemdclaaGreatDoorPax
import Derived.Test.YteafdlblemdclaaGreatDoorPbn
import Derived.Test.YteafdlblemdclaaGreatDoorPbj
import Derived.Test.YteafdlblemdclaaGreatDoorPbd
import Derived.Test.YteafdlblemdclaaGreatDoorPbm
import Derived.Test.YteafdlblemdclaaGreatDoorPbb
import Derived.Test.YteafdlblemdclaaGreatDoorPav
import Derived.Test.YteafdlblemdclaaGreatDoorPbl
import Derived.Test.YteafdlblemdclaaGreatDoorPbo
import Derived.Test.YteafdlblemdclaaGreatDoorPbr
namespace Go.Proofs.YteafdlblemdclaaGreatDoor
open Go.RowKit
set_option maxHeartbeats 2000000
set_option maxRecDepth 1000000
def Tp (w : World) : Prop := Lib.TabIs Tryz.prog w "internal/strconv.uint64pow10" .u64 Lib.pow10Tab
theorem Tp.kept {w w':World} (h:Tp w) (hb:Below w.heap.size w w'):Tp w':=Lib.tabBelow_of_tabIs h w' hb
theorem Lit.dc {s:ByteArray} {n v:Nat} (h:Lit s n v) (hn:0 < n) (hm:n≤65536) {y:Int} (h0:-1073741824≤y) (h1:y≤1073741824):DcOk s y:=
 ⟨by rw [h.sz]; exact hm,h.ok,h0,h1,fun e=>by rw [h.sz] at e; omega,h.fst,cd_of h.ok h.lst⟩
theorem Rnd.apart {s:ByteArray} {g:Bool} {md c Q R:Nat} {up:Bool} (h:Rnd s g md c Q R up) (hc:0 < c) (hmd:md≤4):apart (valS s) ((Q+(if up then 1 else 0)) * 10 ^ c) = rdist c R up∧valS s≠(Q+(if up then 1 else 0)) * 10 ^ c:=by
 obtain ⟨h1,_,h3,h4,_⟩:=h.dist hc hmd
 generalize rdist c R up = D at *
 unfold Go.Proofs.YteafdlblemdclaaGreatDoor.apart
 cases up
 ·have h5:=h4 rfl
  generalize (Q+(if false = true then 1 else 0)) * 10 ^ c = Y at *
  rw [if_pos (by omega)]
  omega
 ·have h5:=h3 rfl
  generalize (Q+(if true = true then 1 else 0)) * 10 ^ c = Y at *
  rw [if_neg (by omega)]
  omega
def dgcl0_gl:List (Nat×Obj):=[]
def dgcl0_tr:List Or:=[.ix 0,.ix 0,.ix 0,.ix 2,.ix 2,.ix 2,.ix 3,.ix 3,.ix 3,.ix 3,.ix 4,.ix 3,.ix 3,.ix 3,.ix 3,.ix 0,.ix 0,.ix 0,.ix 0,.ix 5,.ix 7,.reg 8 [(8,[],[]),(8,[],[]),(8,[],[]),(8,[(5,false)],[.ix 5]),(8,[(7,true),(7,true),(7,true)],[.ix 7,.ix 7,.ix 7])],.ix 7,.reg 8 [(8,[],[]),(8,[],[]),(8,[(5,false)],[.ix 5]),(8,[],[]),(8,[],[]),(8,[(5,false)],[.ix 5]),(8,[],[]),(8,[],[]),(8,[],[]),(8,[],[]),(8,[],[])],.ix 7,.ix 7,.ix 7,.ix 7,.ix 7,.ix 7,.ix 7,.ix 7,.ix 7,.ix 5,.ix 7,.ix 7,.ix 7,.ix 7,.ix 5,.ix 10,.ix 12,.ix 12,.ix 12,.ix 12,.ix 10,.ix 10,.ix 10,.ix 10,.ix 11,.ix 11,.ix 11,.ix 11,.ix 11,.ix 11,.ix 9,.ix 9,.ix 9,.ix 9,.ix 9,.ix 9,.ix 8,.ix 8,.ix 8,.ix 8,.ix 8,.ix 8,.ix 13,.ix 13,.ix 13,.ix 13,.ix 13,.ix 13,.ix 6,.ix 6,.ix 6,.ix 6,.ix 6,.ix 6,.ix 1,.ix 1,.ix 1,.ix 1,.ix 1,.ix 1]
theorem dgcl0_run (pk:CPk):outs (.tuple #[.agg #[.bool false,.string ⟨#[49]⟩,.int .i64 (-1)],.bool false,.int .i64 0]) (fev Tryz.prog 3000 pk 17 #[.agg #[.bool false,.string ⟨#[57,57,57,55,53,53,56,53,57,51,55,53]⟩,.int .i64 (-13)],.int .i64 3,.int .u8 0] ⟨⟨[],dgcl0_gl⟩,0,dgcl0_tr,[]⟩) = told pk 14 (emK dgcl0_tr []):=by kernel_rfl
theorem dgcl0 (W:World) (hW:∀ g o,(g,o)∈dgcl0_gl→∃ o',W.heap[g]? = some o'∧∀ a x,ldO a o = some x→ldO a o' = some x):Calls Tryz.prog 17 #[.agg #[.bool false,.string ⟨#[57,57,57,55,53,53,56,53,57,51,55,53]⟩,.int .i64 (-13)],.int .i64 3,.int .u8 0] W fun e W'=>e = .returned (.tuple #[.agg #[.bool false,.string ⟨#[49]⟩,.int .i64 (-1)],.bool false,.int .i64 0])∧Below W.heap.size W W':=
 closed (by kernel_rfl) 3000 _ _ _ _ _ _ dgcl0_run W hW
def dgcl1_gl:List (Nat×Obj):=[]
def dgcl1_tr:List Or:=[.ix 0,.ix 0,.ix 0,.ix 2,.ix 2,.ix 2,.ix 3,.ix 3,.ix 3,.ix 3,.ix 4,.ix 3,.ix 3,.ix 3,.ix 3,.ix 0,.ix 0,.ix 0,.ix 0,.ix 5,.ix 7,.reg 8 [(8,[],[]),(8,[],[]),(8,[],[]),(8,[(5,false)],[.ix 5]),(8,[],[])],.ix 7,.reg 8 [(8,[],[]),(8,[],[]),(8,[(5,false)],[.ix 5]),(8,[],[]),(8,[],[]),(8,[(5,false)],[.ix 5]),(8,[],[]),(8,[],[]),(8,[],[]),(8,[],[]),(8,[],[])],.ix 7,.ix 7,.ix 7,.ix 5,.ix 7,.ix 5,.ix 10,.ix 12,.ix 12,.ix 12,.ix 12,.ix 10,.ix 10,.ix 10,.ix 10,.ix 11,.ix 11,.ix 11,.ix 11,.ix 11,.ix 11,.ix 9,.ix 9,.ix 9,.ix 9,.ix 9,.ix 9,.ix 8,.ix 8,.ix 8,.ix 8,.ix 8,.ix 8,.ix 13,.ix 13,.ix 13,.ix 13,.ix 13,.ix 13,.ix 6,.ix 6,.ix 6,.ix 6,.ix 6,.ix 6,.ix 1,.ix 1,.ix 1,.ix 1,.ix 1,.ix 1]
theorem dgcl1_run (pk:CPk):outs (.tuple #[.agg #[.bool true,.string ⟨#[49]⟩,.int .i64 (-3)],.bool false,.int .i64 0]) (fev Tryz.prog 3000 pk 18 #[.agg #[.bool true,.string ⟨#[53,57,54,48,52,54,52,52,55,55,53,51,57,48,54,50,53]⟩,.int .i64 (-24)],.int .i64 3,.int .u8 4] ⟨⟨[],dgcl1_gl⟩,0,dgcl1_tr,[]⟩) = told pk 14 (emK dgcl1_tr []):=by kernel_rfl
theorem dgcl1 (W:World) (hW:∀ g o,(g,o)∈dgcl1_gl→∃ o',W.heap[g]? = some o'∧∀ a x,ldO a o = some x→ldO a o' = some x):Calls Tryz.prog 18 #[.agg #[.bool true,.string ⟨#[53,57,54,48,52,54,52,52,55,55,53,51,57,48,54,50,53]⟩,.int .i64 (-24)],.int .i64 3,.int .u8 4] W fun e W'=>e = .returned (.tuple #[.agg #[.bool true,.string ⟨#[49]⟩,.int .i64 (-3)],.bool false,.int .i64 0])∧Below W.heap.size W W':=
 closed (by kernel_rfl) 3000 _ _ _ _ _ _ dgcl1_run W hW
theorem OneBut.below {p off:Nat} {w W':World} {cs:Array Value} {t:TypeId} {xs:List Value} (ht:t≠83) (hc:NoLimb cs.toList) (hx:NoLimb xs) (h1:xs.all (·.oneCell') = true) (hn:off+xs.length≤cs.size) (h0:w.heap[p]? = some (.cells cs t (0,0))) (h:OneBut p w W') (hp:W'.heap[p]? = some (.cells (setL cs off xs) t (0,0))):Below w.heap.size (evs (sts p off xs) w) W':=by
 obtain ⟨-,g2,g3,g4,g5,-⟩:=sts_ok (w0:=Fr0.but p w) ht (Or.inl rfl) xs off cs w h0 hn hc hx h1 ⟨rfl,rfl,rfl,Nat.le_refl _,fun _ _ _=>rfl⟩
 have g4':OneBut p w (evs (sts p off xs) w):=g4
 refine ⟨h.os.trans g4'.os.symm,h.tape.trans g4'.tape.symm,h.output.trans g4'.output.symm,by rw [g5]; exact h.size,fun k hk=>?_⟩
 by_cases hkp:k = p
 ·subst hkp; rw [hp,g2]
 ·rw [h.block k hk hkp,g3 k hkp]
def pt:List UInt8→Bool→List UInt8→Nat→Bool→Option (List UInt8×Nat×Bool)
 | [],_,o,p,q=>some (o,p,q)
 | c :: r,f,o,p,q=>
  if c.toNat = 101 then some (o,p,q)
  else if c.toNat = 45 then (if f then pt r false o p q else none)
  else if c.toNat = 46 then (if q then none else if o = [] then none else pt r false o p true)
  else if 48≤c.toNat∧c.toNat≤57 then pt r false (o ++ [c]) (if q then p+1 else p) q
  else none
theorem says_self {s:ByteArray} (hd:AllD s s.size) (h0:0 < s.size) (ha:∀ h:0 < s.size,(s[0]'h).toNat≠48) (hb:∀ k,(h:k+1 = s.size)→(s[k]'(by omega)).toNat≠48):Says s (valS s)∧valS s % 10≠0:=by
 obtain ⟨q,hq⟩:∃ q,q+1 = s.size:=⟨s.size - 1,by omega⟩
 have hE:Ends s 0 (q+1):=⟨by omega,by omega,fun j _ h=>by omega,fun j h h2=>by omega,fun _ h=>ha h,fun _ h=>hb q hq⟩
 obtain ⟨n,z,hz,hv,h10,hS⟩:=core_of hd hE (Nat.zero_le _)
 have hz0:z = 0:=by omega
 subst hz0
 have hvn:valS s = n:=by simpa using hv
 rw [hvn]
 have he:s.extract 0 (q+1) = s:=by rw [hq,ByteArray.extract_zero_size]
 rw [he] at hS
 exact ⟨hS,h10⟩
theorem dq_uniq {g:Bool} {s s2:ByteArray} {x x2:Int} (h:DcOk s x) (h2:DcOk s2 x2) (n1:s.size≠0) (n2:s2.size≠0) (e:dq g (valS s) x = dq g (valS s2) x2):s = s2∧x = x2:=by
 obtain ⟨ex,hex⟩:∃ ex,min x x2 = ex:=⟨_,rfl⟩
 obtain ⟨o1,ho1⟩:∃ o:Nat,x = ex+(o:Int):=⟨(x - ex).toNat,by omega⟩
 obtain ⟨o2,ho2⟩:∃ o:Nat,x2 = ex+(o:Int):=⟨(x2 - ex).toNat,by omega⟩
 have k:=dq_ord g g (valS s * 10 ^ o1) (valS s2 * 10 ^ o2) ex
 rw [← dq_up,← dq_up,← ho1,← ho2,ordR_eq e] at k
 have k2:valS s * 10 ^ o1 = valS s2 * 10 ^ o2:=by
  unfold cmpZ dvl at k
  generalize valS s * 10 ^ o1 = A at *
  generalize valS s2 * 10 ^ o2 = B at *
  cases g <;> simp only [Bool.false_eq_true,if_true,if_false] at k <;> split at k <;> (try omega) <;> split at k <;> omega
 obtain ⟨k3,k4⟩:=tens_uniq k2 (dx_low h n1).2 (dx_low h2 n2).2
 obtain ⟨S1,_⟩:=says_self h.ok (by omega) h.fst h.lst
 obtain ⟨S2,_⟩:=says_self h2.ok (by omega) h2.fst h2.lst
 rw [k3] at S1
 exact ⟨says_eq S1 S2,by omega⟩
theorem sstand_0 (w:World) (s:Bool) (a b:Option Addr) (n c k l:Nat) (h1:Num w a n 0) :
  Calls Tryz.prog 112 #[.agg #[.bool s,.slice a n c,.slice b k l],.int .i64 0] w fun en w'=>en = .returned (.tuple #[.agg #[.bool false,.slice none 0 0,.int .i64 0],.int .i64 0])∧Below w.heap.size w w':=by
 refine calls_sym Tryz.func112 rfl (by kernel_rfl) fun T hK=>?_
 replace hK:Kn T _ [(0,.agg #[.bool s,.slice a n c,.slice b k l]),(1,.int .i64 0)]:=hK
 have hS:=Fb.begin w
 have hG:GsAt [gN a n 0] w:=⟨h1,trivial⟩
 refine wq hS hG hK (fun p1=>[.n 2 #[.bool s,.slice a n c,.slice b k l] 41,.n 4 #[.bool false,.slice none 0 0,.int .i64 0] 30,.v 5 (.int .i64 0)]) (fun p1=>[(1,.int .i64 0),(2,pT (p1 0).N 0),(4,pT (p1 1).N 0),(5,.int .i64 0)]) (fun p1=>?_) (fun p1 W1 T hF hK=>?_)
 ·iterate 2 refine okn ?_
  refine okv ?_
  exact ok_nil
 replace hS:=SymF.fc hS hF [1000,1001] [⟨(p1 0).N,#[.bool s,.slice a n c,.slice b k l],41,true⟩,⟨(p1 1).N,#[.bool false,.slice none 0 0,.int .i64 0],30,true⟩]
 replace hG:=hF.gx
 clear hF
 refine wp_seq ?_
 refine wq hS hG hK (fun p2=>[.v 10 (pT (p1 0).N 1),.l 11 (.agg #[.slice a n c]) 0 1,.c (some 12) (cV (.bool true))]) (fun p2=>[(1,.int .i64 0),(2,pT (p1 0).N 0),(4,pT (p1 1).N 0),(5,.int .i64 0),(12,.bool true)]) (fun p2=>?_) (fun p2 W2 T hF hK=>?_)
 ·refine okv ?_
  refine okl ?_
  refine okc (fun W cx=>as_v (snought a _ c _ _ (Num.isz (cx.G.1) rfl))) ?_
  exact ok_nil
 obtain ⟨hS,hG⟩:=SymF.fg hS hF
 clear hF
 refine wp_cond_true (hK.ew 12) ?_
 refine wq hS hG hK (fun p3=>[.v 13 (.agg #[.bool false,.slice none 0 0,.int .i64 0]),.p 1 0 [.bool false,.slice none 0 0,.int .i64 0],.v 5 (.int .i64 0)]) (fun p3=>[(1,.int .i64 0),(2,pT (p1 0).N 0),(4,pT (p1 1).N 0),(5,.int .i64 0),(12,.bool true)]) (fun p3=>?_) (fun p3 W3 T hF hK=>?_)
 ·refine okv ?_
  refine okp ?_
  refine okv ?_
  exact ok_nil
 obtain ⟨hS,hG⟩:=SymF.fg hS hF
 clear hF
 refine wp_ret ?_
 refine then_r ?_
 exact sym_end hS hK (.tuple #[.agg #[.bool false,.slice none 0 0,.int .i64 0],.int .i64 0]) [(1,0,3)] [.bool false,.slice none 0 0,.int .i64 0] (by kernel_rfl) (by kernel_rfl) ⟨rfl,hS.fr⟩
def capR (I md:Nat) (s:Bool) (r:Nat):Nat:=if r < I then r else if fth md s false 1 then I else I - 1
theorem WrQ.lt {F G r:Nat} {s sa:Bool} {va da p d:Nat} (h:WrQ F G s r sa va da) (hl:pv F r * d < p * 2 ^ G):va * d < p * da:=by
 refine Nat.lt_of_mul_lt_mul_right (a:=2 ^ G) ?_
 have a1:va * d * 2 ^ G = pv F r * d * da:=by rw [Nat.mul_right_comm,h.eq]; ac_rfl
 have a2:p * da * 2 ^ G = p * 2 ^ G * da:=Nat.mul_right_comm ..
 rw [a1,a2]
 exact Nat.mul_lt_mul_of_pos_right hl h.hd
theorem WrQ.same {F G r:Nat} {s sa:Bool} {va da p d:Nat} (h:WrQ F G s r sa va da) (hl:pv F r * d = p * 2 ^ G):va * d = p * da:=by
 refine Nat.eq_of_mul_eq_mul_right (Nat.pow_pos (n:=G) (show 0 < 2 by omega)) ?_
 have a1:va * d * 2 ^ G = pv F r * d * da:=by rw [Nat.mul_right_comm,h.eq]; ac_rfl
 have a2:p * da * 2 ^ G = p * 2 ^ G * da:=Nat.mul_right_comm ..
 rw [a1,a2,hl]
theorem dg_half:Fm 5 10 32768 31744:=⟨⟨by decide,by decide,by decide,by decide⟩,by decide,by decide⟩
theorem dglit_a:Lit ⟨#[57,57,57,55,53,53,56,53,57,51,55,53]⟩ 12 999755859375:=Lit.mk' rfl (by decide) (by decide) (by decide) rfl
theorem dglit_b:Lit ⟨#[53,57,54,48,52,54,52,52,55,55,53,51,57,48,54,50,53]⟩ 17 59604644775390625:=Lit.mk' rfl (by decide) (by decide) (by decide) rfl
theorem dq_nz (s:Bool) {v:Nat} (x:Int) (hv:v≠0):dq s v x≠0:=by
 rw [dq_mk]
 intro h
 rw [Rat.mkRat_eq_zero (ten_ne _)] at h
 have h1:=congrArg Int.natAbs h
 rw [Rm.sgn_abs] at h1
 exact Nat.mul_ne_zero hv (ten_ne _) h1
theorem dg_known (s:Bool) {r:Nat} (hr:r < 31744) {t:ByteArray} {n v k p:Nat} (ht:Lit t n v) (hn:0 < n) (hn2:n≤100) (hv:v≠0) (hk:k≤100) (hp:pv 10 r = p) (he:p * 10 ^ k = v * 2 ^ 24) (b:Int) (hb:(((if s then 32768 else 0)+r:Nat):Int) = b) (W:World) (hT:Tb W) (htp:Tpw W) :
  Calls Tryz.prog 9 #[.agg #[.int .i64 5,.int .i64 10],.int .u64 b] W fun e W'=>e = .returned (.tuple #[.agg #[.bool s,.string t,.int .i64 (-(k:Int))],.int .i64 0])∧Below W.heap.size W W':=by
 obtain ⟨sa,m,x,i,j,t3,y,hV,hO,hi,hj,hq,hD,hw,h1,h2,h3,hA⟩:=dall_fin (B:=15) (G:=24) dg_half rfl rfl s hr
 have hL:=ht.dc hn (by omega) (y:=-(k:Int)) (by omega) (by omega)
 have hvt:valS t = v:=ht.val
 have hE:dq s (valS t3) y = dq s (valS t) (-(k:Int)):=by
  rw [hw,hvt,dq_mk,dq_mk,Rat.mkRat_eq_iff (ten_ne _) (ten_ne _)]
  have e1:=hq.eq
  rw [hp] at e1
  have e2:m * 2 ^ i * 10 ^ k = v * 2 ^ j:=by
   refine Nat.eq_of_mul_eq_mul_right (Nat.pow_pos (n:=24) (show 0 < 2 by decide)) ?_
   rw [Nat.mul_right_comm,e1,Nat.one_mul,Nat.mul_right_comm,he,Nat.mul_right_comm]
  have e3:(-(j:Int)).toNat = 0:=by omega
  have e4:(-(-(j:Int))).toNat = j:=by omega
  have e5:(-(k:Int)).toNat = 0:=by omega
  have e6:(-(-(k:Int))).toNat = k:=by omega
  rw [e3,e4,e5,e6,Nat.pow_zero,Nat.mul_one,Nat.mul_one,← Rm.sgn_scale,← Rm.sgn_scale]
  congr 1
  rw [show (10:Nat) ^ j = 2 ^ j * 5 ^ j by rw [← Nat.mul_pow],← Nat.mul_assoc,← e2]
  exact Nat.mul_right_comm ..
 have n2:t.size≠0:=by rw [ht.sz]; omega
 have n1:t3.size≠0:=fun h0=>by
  have h4:=dx_empty h0
  rw [h4,dq_zero,hvt] at hE
  have h5:=(dq_nz s (-(k:Int)) hv)
  exact h5 hE.symm
 obtain ⟨rfl,rfl⟩:=dq_uniq hD hL n1 n2 hE
 have:=hA W hT htp
 rw [hb] at this
 exact this
theorem dgalive_any (W:World) (hT:Tb W) (htp:Tpw W):Calls Tryz.prog 7 #[] W fun e W'=>e = .returned (.bool true)∧Below W.heap.size W W':=by
 have H1:=hide fun (W:World) (hT:Tb W) (htp:Tpw W)=>dg_known false (r:=11878) (by decide) dglit_a (k:=13) (p:=1677312) (by decide) (by decide) (by decide) (by decide) (by kernel_rfl) (by kernel_rfl) 11878 (by simp) W hT htp
 have H0:=hide fun (W:World) (hT:Tb W) (htp:Tpw W)=>dg_known true (r:=1) (by decide) dglit_b (k:=24) (p:=1) (by decide) (by decide) (by decide) (by decide) (by kernel_rfl) (by kernel_rfl) 32769 (by simp) W hT htp
 have HR:=hide fun W:World=>dgcl0 W (fun g o h=>absurd h (by simp [dgcl0_gl]))
 have HP:=hide fun W:World=>dgcl1 W (fun g o h=>absurd h (by simp [dgcl1_gl]))
 have H2:=hide fun (W:World) (hT:Tb W) (htp:Tpw W)=>dsome_ok W 5 10 11878 3 0 false false false ⟨#[57,57,57,55,53,53,56,53,57,51,55,53]⟩ ⟨#[49]⟩ (-13) (-1) 0 hT htp H1 HR
 have H3:=hide fun (W:World) (hT:Tb W) (htp:Tpw W)=>dplaces_ok W 5 10 32769 3 4 true true false ⟨#[53,57,54,48,52,54,52,52,55,55,53,51,57,48,54,50,53]⟩ ⟨#[49]⟩ (-24) (-3) 0 hT htp H0 HP
 exact dalive_is W hT htp H1 H2 H3 (hide fun W=>dgcl2 W (fun g o h=>absurd h (by simp [dgcl2_gl]))) (hide fun W=>dgcl3 W (fun g o h=>absurd h (by simp [dgcl3_gl])))
theorem fth_lo (s o:Bool):fth 0 s o (-1) = false:=by cases s <;> cases o <;> rfl
theorem fth_hi (s o:Bool):fth 0 s o 1 = true:=by cases s <;> cases o <;> rfl
theorem near_place {p d B F G M K:Nat} {X:Int} {r0 ρ w:Nat} (h:Plc p d B F G M K X r0 ρ w) {r:Nat} (hd:0 < d) (hA:2 * (p * 2 ^ G) < (pv F r+pv F (r+1)) * d) (hB:0 < r→(pv F (r - 1)+pv F r) * d < 2 * (p * 2 ^ G)) {S I:Nat} (hr:r < I) (s:Bool):bitsR S I 0 s (rowR B F 0 s M K X) = (if s then S else 0)+r:=by
 have hrow:rowR B F 0 s M K X = r:=by
  have hle:=h.le
  have hlt:=h.lt
  have h1:r0≤r:=by
   rcases Nat.lt_or_ge r r0 with h9|h9
   ·have h4:=Nat.mul_le_mul_right d (pv_le (F:=F) (show r+1≤r0 from h9))
    have h5:=Nat.mul_le_mul_right d (Nat.le_of_lt (pv_lt_succ F r))
    rw [Nat.add_mul] at hA
    omega
   ·exact h9
  have h2:r≤r0+1:=by
   rcases Nat.lt_or_ge (r0+1) r with h9|h9
   ·have hB:=hB (by omega)
    have h4:=Nat.mul_le_mul_right d (pv_le (F:=F) (show r0+1≤r - 1 by omega))
    have h7:=Nat.mul_le_mul_right d (Nat.le_of_lt (pv_lt (F:=F) (show r - 1 < r by omega)))
    rw [Nat.add_mul] at hB
    omega
   ·omega
  rcases Nat.eq_or_lt_of_le h1 with rfl|h9
  ·rw [h.row]
   by_cases hρ:ρ = 0
   ·rw [if_pos hρ]; omega
   ·have hh:hlf ρ w = -1:=by rw [h.half]; unfold s3; rw [if_pos hA]
    rw [if_neg hρ,hh,fth_lo,if_neg (by decide)]; omega
  ·obtain rfl:r = r0+1:=by omega
   have hB:=hB (by omega)
   rw [Nat.add_sub_cancel] at hB
   have hm:pv F r0 * d < pv F (r0+1) * d:=Nat.mul_lt_mul_of_pos_right (pv_lt_succ F r0) hd
   have hρ:ρ≠0:=fun e=>by
    have:=h.eq.1 e
    rw [Nat.add_mul] at hB
    omega
   have hh:hlf ρ w = 1:=by rw [h.half]; unfold s3; rw [if_neg (by omega),if_neg (by omega)]
   rw [h.row,if_neg hρ,hh,fth_hi,if_pos rfl]
 unfold bitsR
 rw [hrow,if_pos hr]
theorem gap_up (F r:Nat):∃ g,0 < g∧pv F (r+1) = pv F r+g∧pv F r≤2 ^ (F+1) * g:=by
 obtain ⟨k,c,rfl,h1,h2⟩:=pv_parts F r
 refine ⟨2 ^ k,Nat.pow_pos (by decide),?_,?_⟩
 ·rw [pv_row (by omega) h2,Nat.add_assoc,pv_row (by omega) (by omega),Nat.add_mul,Nat.one_mul]
 ·rw [pv_row (by omega) h2]
  exact Nat.mul_le_mul_right _ (by omega)
theorem gap_down (F r:Nat) (hr:0 < r):∃ g,0 < g∧pv F r = pv F (r - 1)+g∧pv F r≤2 ^ (F+1) * g:=by
 obtain ⟨k,c,rfl,h1,h2⟩:=pv_parts F r
 have hP:0 < 2 ^ F:=Nat.pow_pos (by decide)
 by_cases hc:k = 0∨2 ^ F≤c - 1
 ·have hc0:0 < c:=by
   rcases h2 with rfl|h2
   ·omega
   ·omega
  refine ⟨2 ^ k,Nat.pow_pos (by decide),?_,?_⟩
  ·rw [show k * 2 ^ F+c - 1 = k * 2 ^ F+(c - 1) by omega,pv_row (by omega) h2,pv_row (by omega) hc]
   obtain ⟨e,rfl⟩:∃ e,c = e+1:=⟨c - 1,by omega⟩
   rw [Nat.add_sub_cancel,Nat.add_mul,Nat.one_mul]
  ·rw [pv_row (by omega) h2]
   exact Nat.mul_le_mul_right _ (by omega)
 ·obtain ⟨j,rfl⟩:∃ j,k = j+1:=⟨k - 1,by omega⟩
  obtain rfl:c = 2 ^ F:=by omega
  have e1:(j+1) * 2 ^ F+2 ^ F - 1 = j * 2 ^ F+(2 ^ (F+1) - 1):=by rw [Nat.add_mul,Nat.pow_succ]; omega
  have e2:pv F ((j+1) * 2 ^ F+2 ^ F) = 2 ^ (F+1) * 2 ^ j:=by rw [pv_row (by omega) h2,Nat.pow_succ,Nat.pow_succ]; exact (Nat.mul_assoc ..).symm.trans (Nat.mul_right_comm ..)
  refine ⟨2 ^ j,Nat.pow_pos (by decide),?_,Nat.le_of_eq e2⟩
  rw [e1,e2,pv_row (by omega) (Or.inr (by rw [Nat.pow_succ]; omega))]
  have h3:0 < 2 ^ (F+1):=Nat.pow_pos (by decide)
  obtain ⟨e,he⟩:∃ e,2 ^ (F+1) = e+1:=⟨2 ^ (F+1) - 1,by omega⟩
  rw [he,Nat.add_sub_cancel,Nat.add_mul,Nat.one_mul]
theorem close_up {x d v g N D e T:Nat} (hd:0 < d) (hg:0 < g) (hx:x * N = D * v * d) (hD:D≤N+e) (he:2 * e * T < N) (hv:v≤T * g):2 * x < (v+(v+g)) * d:=by
 have k1:2 * e * v≤2 * e * (T * g):=Nat.mul_le_mul_left _ hv
 have k2:2 * e * T * g < N * g:=Nat.mul_lt_mul_of_pos_right he hg
 rw [Nat.mul_assoc] at k2
 have k3:2 * e * v * d < N * g * d:=Nat.mul_lt_mul_of_pos_right (Nat.lt_of_le_of_lt k1 k2) hd
 have k4:D * (v * d)≤(N+e) * (v * d):=Nat.mul_le_mul_right _ hD
 refine Nat.lt_of_mul_lt_mul_right (a:=N) ?_
 have e1:2 * x * N = 2 * (D * (v * d)):=by rw [Nat.mul_assoc,hx,Nat.mul_assoc]
 have e2:(v+(v+g)) * d * N = 2 * (N * (v * d))+N * g * d:=by grind
 have e3:(N+e) * (v * d) = N * (v * d)+e * (v * d):=Nat.add_mul ..
 have e4:2 * e * v * d = 2 * (e * (v * d)):=by grind
 omega
theorem close_down {x d u g N D e T:Nat} (hd:0 < d) (hg:0 < g) (hx:x * N = D * (u+g) * d) (hD:N≤D+e) (he:2 * e * T < N) (hv:u+g≤T * g):(u+(u+g)) * d < 2 * x:=by
 have k1:2 * e * (u+g)≤2 * e * (T * g):=Nat.mul_le_mul_left _ hv
 have k2:2 * e * T * g < N * g:=Nat.mul_lt_mul_of_pos_right he hg
 rw [Nat.mul_assoc] at k2
 have k3:2 * e * (u+g) * d < N * g * d:=Nat.mul_lt_mul_of_pos_right (Nat.lt_of_le_of_lt k1 k2) hd
 have k4:N * ((u+g) * d)≤(D+e) * ((u+g) * d):=Nat.mul_le_mul_right _ hD
 refine Nat.lt_of_mul_lt_mul_right (a:=N) ?_
 have e1:2 * x * N = 2 * (D * ((u+g) * d)):=by rw [Nat.mul_assoc,hx,Nat.mul_assoc]
 have e2:(u+(u+g)) * d * N+N * g * d = 2 * (N * ((u+g) * d)):=by grind
 have e3:(D+e) * ((u+g) * d) = D * ((u+g) * d)+e * ((u+g) * d):=Nat.add_mul ..
 have e4:2 * e * (u+g) * d = 2 * (e * ((u+g) * d)):=by grind
 omega
theorem dq_cross {g f sa:Bool} {D N R S va da:Nat} {y:Int} (hS:S≠0) (hda:da≠0) (h1:dq g D y = mkRat (Rm.sgn f R) S) (h2:dq g N y = mkRat (Rm.sgn sa va) da):R * N * da = va * D * S:=by
 rw [dq_mk,Rat.mkRat_eq_iff (ten_ne _) hS] at h1
 rw [dq_mk,Rat.mkRat_eq_iff (ten_ne _) hda] at h2
 have k1:=congrArg Int.natAbs h1
 have k2:=congrArg Int.natAbs h2
 simp only [Int.natAbs_mul,Rm.sgn_abs,Int.natAbs_natCast] at k1 k2
 have hA:0 < 10 ^ y.toNat:=Nat.pow_pos (by decide)
 have hB:0 < 10 ^ (-y).toNat:=Nat.pow_pos (by decide)
 generalize 10 ^ y.toNat = A at *
 generalize 10 ^ (-y).toNat = B at *
 refine Nat.eq_of_mul_eq_mul_right (Nat.mul_pos hA hB) ?_
 calc R * N * da * (A * B) = (R * B) * (N * A * da):=by grind
  _ = (D * A * S) * (va * B):=by rw [← k1,k2]
  _ = va * D * S * (A * B):=by grind
theorem near_float {p d B F G M K:Nat} {X:Int} {r0 ρ w r N D e:Nat} {s sa g f:Bool} {va da:Nat} {y:Int} (hP:Plc p d B F G M K X r0 ρ w) (hd:0 < d) (hq:WrQ F G s r sa va da) (h1:dq g D y = mkRat (Rm.sgn f p) d) (h2:dq g N y = mkRat (Rm.sgn sa va) da) (hD1:D≤N+e) (hD2:N≤D+e) (he:2 * e * 2 ^ (F+1) < N) {S I:Nat} (hr:r < I) (s':Bool):bitsR S I 0 s' (rowR B F 0 s' M K X) = (if s' then S else 0)+r:=by
 have hx:p * 2 ^ G * N = D * pv F r * d:=by
  have h3:=dq_cross (by omega) (by have:=hq.hd; omega) h1 h2
  have h4:=hq.eq
  refine Nat.eq_of_mul_eq_mul_right hq.hd ?_
  calc p * 2 ^ G * N * da = (p * N * da) * 2 ^ G:=by grind
   _ = va * D * d * 2 ^ G:=by rw [h3]
   _ = (va * 2 ^ G) * (D * d):=by grind
   _ = pv F r * da * (D * d):=by rw [h4]
   _ = D * pv F r * d * da:=by grind
 obtain ⟨g1,a1,a2,a3⟩:=gap_up F r
 refine near_place hP hd ?_ (fun h0=>?_) hr s'
 ·rw [a2]; exact close_up hd a1 hx hD1 he a3
 ·obtain ⟨g2,b1,b2,b3⟩:=gap_down F r h0
  rw [b2] at hx b3 ⊢
  exact close_down hd b1 hx hD2 he b3
end Go.Proofs.YteafdlblemdclaaGreatDoor
