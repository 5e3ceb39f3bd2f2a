/- Of what RoundOrderRow stands on: SFrac SRatC SOrdA SAlive SOrdW. -/
import Derived.Test.YtcclpafdkgnmiaaGreatDoorPbf
import Derived.Test.YtcclpafdkgnmiaaGreatDoorPbg
import Derived.Test.YtcclpafdkgnmiaaGreatDoorPao
import Derived.Test.YtcclpafdkgnmiaaGreatDoorPbc
import Derived.Test.YtcclpafdkgnmiaaGreatDoorPat
namespace Go.Proofs.YtcclpafdkgnmiaaGreatDoor
open Go.RowKit
set_option maxHeartbeats 2000000
set_option maxRecDepth 20000
theorem num_new (w:World) (n:Nat) (h0:0 < n) (h1:n < 4294967296):Num (w.alloc (.cells #[.int .u32 (n:Int)] 31)) (some ⟨w.heap.size,0,none⟩) 1 n:=by
 refine ⟨[n],rfl,Or.inr ⟨w.heap.size,0,rfl,fun j hj=>?_⟩,fun x hx=>?_,?_,?_,by omega⟩
 ·have hj0:j = 0:=by simp at hj; omega
  subst hj0
  rw [cell_of_row _ w.heap.size 0 _ _ _ (heap_alloc_new w _)]; rfl
 ·simp at hx; omega
 ·simp [Pl.Norm]; omega
 ·simp [Pl.val]
theorem frac_is (s:Bool) (n d:Nat) (hn:0 < n) (hn2:n < 4294967296) (hd:0 < d) (hd2:d < 4294967296) (hg:Nat.gcd n d = 1) (w:World) :
  Calls Tryz.prog 7 #[.bool s,.int .u32 (n:Int),.int .u32 (d:Int)] w fun en w'=>(∃ a k c a' k' c',en = .returned (.tuple #[.agg #[.bool s,.slice a k c,.slice a' k' c'],.int .i64 0])∧Mine w' w.heap.size a k c n∧Mine w' w.heap.size a' k' c' d)∧Below w.heap.size w w':=by
 have q1:=num_new (w.alloc (.cells #[.bool false,.slice none 0 0,.slice none 0 0] 27)) n hn hn2
 have q2:=num_new ((w.alloc (.cells #[.bool false,.slice none 0 0,.slice none 0 0] 27)).alloc (.cells #[.int .u32 (n:Int)] 31)) d hd hd2
 replace q1:=q1.kept (gr_alloc _ (.cells #[.int .u32 (d:Int)] 31))
 have hS:=(Fs.one w #[.bool false,.slice none 0 0,.slice none 0 0] 27).kept (gr_alloc _ (.cells #[.int .u32 (n:Int)] 31))
 replace hS:=hS.kept (gr_alloc _ (.cells #[.int .u32 (d:Int)] 31))
 simp only [World.size_alloc] at q1 q2
 have hb0:=hS.fr
 have HS:=hide hS
 have H1:=hide q1
 have H2:=hide q2
 clear q1 q2 hS
 go_enter Tryz.func7,Tryz.ntmps7
 go_wp2_with fail
 refine (make_any s _ _ 1 1 1 1 n d _ (unhide H1) (unhide H2) hd).mono ?_
 rintro en w1 ⟨hr,hb1⟩
 rw [hg,Nat.div_one,Nat.div_one] at hr
 rcases hr with ⟨a,k,c,a',k',c',rfl,g1,g2⟩|⟨-,ho⟩
 ·have hS:=(unhide HS).kept hb1
  have hdn:decide (n = 0) = false:=by simp; omega
  rw [hdn]
  have hz:=hb1.size
  have hz0:=hb0.size
  obtain ⟨⟨z0,z1,z2,-⟩,-⟩:=hS.cells
  have Q_:=hS.frozen (b:=w.heap.size) (cs:=#[.bool false,.slice none 0 0,.slice none 0 0]) (t:=27) (by simp)
  have f0:=Q_ 0
  have f1:=Q_ 1
  have f2:=Q_ 2
  clear Q_
  have G1:=hide g1
  have G2:=hide g2
  have HF:=hide hS
  clear g1 g2 hdn hS hb0 hb1 hz hz0 hn hn2 hd hd2
  simp only [RatV,Bool.and_true,Bool.not_false]
  go_wp2
  have hS:=unhide HF
  have e1:=hS.put (b:=w.heap.size) (cs:=#[.bool false,.slice none 0 0,.slice none 0 0]) (t:=27) (by simp) (by omega) 0 (.bool s) [⟨w.heap.size,#[.bool s,.slice none 0 0,.slice none 0 0],27⟩] (by simp)
  have e2:=e1.put (b:=w.heap.size) (cs:=#[.bool s,.slice none 0 0,.slice none 0 0]) (t:=27) (by simp) (by omega) 1 (.slice a k c) [⟨w.heap.size,#[.bool s,.slice a k c,.slice none 0 0],27⟩] (by simp)
  have e3:=e2.put (b:=w.heap.size) (cs:=#[.bool s,.slice a k c,.slice none 0 0]) (t:=27) (by simp) (by omega) 2 (.slice a' k' c') [⟨w.heap.size,#[.bool s,.slice a k c,.slice a' k' c'],27⟩] (by simp)
  have b0:=hS.bx ⟨w.heap.size,#[.bool false,.slice none 0 0,.slice none 0 0],27⟩ (by simp)
  have b1:=e1.bx ⟨w.heap.size,#[.bool s,.slice none 0 0,.slice none 0 0],27⟩ (by simp)
  have b2:=e2.bx ⟨w.heap.size,#[.bool s,.slice a k c,.slice none 0 0],27⟩ (by simp)
  obtain ⟨⟨y0,y1,y2,-⟩,-⟩:=e3.cells
  have ho:w.heap.size≤(((w.alloc (.cells #[.bool false,.slice none 0 0,.slice none 0 0] 27)).alloc (.cells #[.int .u32 (n:Int)] 31)).alloc (.cells #[.int .u32 (d:Int)] 31)).heap.size:=by simp; omega
  exact bodyPost_ret (v:=.tuple #[.agg #[.bool s,.slice a k c,.slice a' k' c'],.int .i64 0]) (by simp [results,Tryz.results7,go_sem,y0,y1,y2]) rfl ⟨⟨a,k,c,a',k',c',rfl,((((unhide G1).put b0 (by simp) 0 _).put b1 (by simp) 1 _).put b2 (by simp) 2 _).mono ho,((((unhide G2).put b0 (by simp) 0 _).put b1 (by simp) 1 _).put b2 (by simp) 2 _).mono ho⟩,e3.fr⟩
 ·have e32:(2:Nat) ^ 32 = 4294967296:=by decide
  rcases ho with ho|ho
  ·exact absurd ho (no_over (K:=32) (by omega) (by omega))
  ·exact absurd ho (no_over (K:=32) (by omega) (by omega))
theorem rchk_ok (s:Bool) (a b:Option Addr) (n c k l m d:Nat) (h0:0 < m) (hd:0 < d) (hg:Nat.gcd m d = 1) (W:World) (h1:Num W a n m) (h2:Num W b k d) :
  Calls Tryz.prog 22 #[.agg #[.bool s,.slice a n c,.slice b k l]] W fun e W'=>e = .returned (.int .i64 0)∧Below W.heap.size W W':=by
 have hk:0 < k:=by have:=h2.zero; omega
 have hn:0 < n:=by have:=h1.zero; omega
 cases s
 ·exact rk_ok_f a n c m b k l d W hk h1 h2 hg
 ·exact rk_ok_t a n c m b k l d W hk hn h1 h2 hg
theorem rat_c (E F B S I md:Nat) (s ng:Bool) (m d z q K bt fl:Nat) (X:Int) (hfo:Fo E F) (hS:S = 2 ^ (F+E)) (hI:I = (2 ^ E - 1) * 2 ^ F) (hB:B = 2 ^ (E - 1) - 1) (hm:md≤4) (h0:0 < m) (hd:0 < d) (hg:Nat.gcd m d = 1) (bm:blen m≤64) (bd:blen d≤64) (hz:sAns m d = 2 ^ z * (2 * q+1)) (hz2:z≤300) (hX:sExp m d+(z:Int) = X) (hK:blen (2 * q+1) = K) (hbt:bitsR S I md s (rowR B F md s (2 * q+1) K X) = bt) (hfl:flagR B F I md s (2 * q+1) K X = fl)
  (a b:Option Addr) (n c k l:Nat) (w:World) (hT:Tb w) (h1:Num w a n m) (h2:Num w b k d) :
  Calls Tryz.prog 8 #[.agg #[.int .i64 (E:Int),.int .i64 (F:Int)],.agg #[.bool s,.slice a n c,.slice b k l],.bool ng,.int .u8 (md:Int)] w fun e w'=>e = .returned (.tuple #[.int .u64 (bt:Int),.int .u8 (fl:Int),.int .i64 0])∧Below w.heap.size w w':=by
 have:=sratio_is (E:=E) (F:=F) (S:=S) (I:=I) (B:=B) (md:=md) ⟨hfo,hS,hI⟩ hB hm ng s a b n c k l m d w hT h1 h2 (by omega) hd (by omega) (by omega) (by omega) (by omega) (hide fun W q1 q2=>rchk_ok s a b n c k l m d h0 hd hg W q1 q2) z (2 * q+1) K X ⟨q,hz⟩ (by omega) (by rw [hz,Nat.mul_div_cancel_left _ (Nat.pow_pos (by omega))]) hX (by rw [← hK]; exact bl_blen _)
 rw [hbt,hfl] at this
 exact this
theorem Mine.limb {w:World} {B:Nat} {a:Option Addr} {n c m:Nat} (h:Mine w B a n c m) (h0:0 < m) (h1:m < 4294967296):n = 1∧∃ b,a = some ⟨b,0,none⟩∧w.cell? ⟨b,0,none⟩ = some (.int .u32 (m:Int)):=by
 have hn:n = 1:=by
  obtain ⟨xs,hl,-,hw,hN,hv,-⟩:=h
  match xs,hl,hw,hN,hv with
  | [],hl,_,_,hv=>simp [Pl.val] at hv; omega
  | [x],hl,_,_,_=>simpa using hl.symm
  | x :: y :: r,hl,hw,hN,hv=>
   exfalso
   have h3:Pl.val (y :: r)≠0:=by
    intro h4
    have:=Pl.norm_lower (xs:=x :: y :: r) hN (by simp)
    simp only [Pl.val] at this hv h4
    have h5:(4294967296:Nat) ^ 1≤4294967296 ^ ((x :: y :: r).length - 1):=Nat.pow_le_pow_right (by omega) (by simp)
    omega
   simp only [Pl.val] at hv h3
   omega
 refine ⟨hn,?_⟩
 subst hn
 obtain ⟨xs,hl,ho,hw,hN,hv,-⟩:=h
 match xs,hl,ho,hv with
 | [x],_,ho,hv=>
  simp [Pl.val] at hv
  subst hv
  rcases ho with ⟨e,-⟩|⟨g,cap,cur,e,hg,hh,-,-,-,hc⟩
  ·cases e
  ·injection e with e1 e2 e3
   refine ⟨g,e1,?_⟩
   rw [cell_of_row w g 0 _ _ _ hh]
   have:=hc 0 (by simp)
   simpa using this
theorem num_len {w:World} {a:Option Addr} {n m:Nat} (h:Num w a n m) (hn:n≤60):blen m≤1920:=by
 obtain ⟨xs,hx,_,hw,_,hv,_⟩:=h
 have h1:=Pl.val_lt hw
 rw [hv,hx] at h1
 obtain ⟨K,hK⟩:∃ K,K = 1920:=⟨_,rfl⟩
 rw [← hK]
 refine (bl_blen m).le_of ?_
 rw [show (4294967296:Nat) = 2 ^ 32 from rfl,← Nat.pow_mul] at h1
 exact Nat.lt_of_lt_of_le h1 (Nat.pow_le_pow_right (by decide) (by omega))
theorem rk_any (s:Bool) (a b:Option Addr) (n c k l:Nat) (xs ys:List Nat) (w:World) (hn:xs.length = n) (hnb:n≤9223372036854775807) (hl:Lim w a xs) (hw:Pl.Wf xs) (hk:ys.length = k) (hkb:k≤9223372036854775807) (hly:Lim w b ys) (hwy:Pl.Wf ys) :
  (∀ W:World,Below w.heap.size w W→Calls Tryz.prog 22 #[.agg #[.bool s,.slice a n c,.slice b k l]] W fun e W'=>e = .returned (.int .i64 20)∧Below W.heap.size W W') ∨
  ∃ p d:Nat,Num w a n p∧Num w b k d∧0 < d∧Nat.gcd p d = 1∧(s = true→0 < p)∧∀ W:World,Num W a n p→Num W b k d→Calls Tryz.prog 22 #[.agg #[.bool s,.slice a n c,.slice b k l]] W fun e W'=>e = .returned (.int .i64 0)∧Below W.heap.size W W':=by
 rcases Nat.eq_zero_or_pos k with z'|z'
 ·subst z'
  exact Or.inl fun W _=>rk_den s a n c b l W
 by_cases hneg:s = true∧n = 0
 ·obtain ⟨rfl,rfl⟩:=hneg
  exact Or.inl fun W _=>rk_neg a c b k l z' W
 have hs:s = true→0 < n:=fun e=>Nat.pos_of_ne_zero fun e2=>hneg ⟨e,e2⟩
 by_cases hc:chk2 xs ys = 0
 case neg=>
  refine Or.inl fun W hW=>?_
  have hG:∀ W':World,Below W.heap.size W W'→Calls Tryz.prog 48 #[.agg #[.slice a n c],.agg #[.slice b k l]] W' fun e w'=>e = .returned (.tuple #[.agg #[.slice none 0 0],.int .i64 (chk2 xs ys)])∧Below W'.heap.size W' w':=fun W' hW'=>gcd_bad a n c xs b k l ys W' hn hk hnb hkb (hl.below (gr_trans hW hW')) (hly.below (gr_trans hW hW')) hc
  cases s
  ·exact rk_err_f a n c b k l _ W z' (by simpa using hc) (hide hG)
  ·exact rk_err_t a n c b k l _ W z' (hs rfl) (by simpa using hc) (hide hG)
 have c1:chk xs = 0:=by
  unfold chk2 at hc
  by_cases h:chk xs = 0
  ·exact h
  ·rw [if_neg h] at hc; exact absurd hc h
 have c2:chk ys = 0:=by unfold chk2 at hc; rw [if_pos c1] at hc; exact hc
 have gN:=dck_num hn hl hw c1
 have gD:=dck_num hk hly hwy c2
 generalize Pl.val xs = p at *
 generalize Pl.val ys = d at *
 have hD0:0 < d:=by have:=gD.zero; omega
 by_cases hg:Nat.gcd p d = 1
 case neg=>
  refine Or.inl fun W hW=>?_
  cases s
  ·exact rk_big_f a n c p b k l d W z' (gN.kept hW) (gD.kept hW) hg
  ·exact rk_big_t a n c p b k l d W z' (hs rfl) (gN.kept hW) (gD.kept hW) hg
 refine Or.inr ⟨p,d,gN,gD,hD0,hg,fun e=>?_,fun W q1 q2=>?_⟩
 ·have:=hs e; have:=gN.zero; omega
 ·cases s
  ·exact rk_ok_f a n c p b k l d W z' q1 q2 hg
  ·exact rk_ok_t a n c p b k l d W z' (hs rfl) q1 q2 hg
theorem asked_any (E F:Int) (s:Bool) (a b:Option Addr) (n c k l:Nat) (xs ys:List Nat) (w:World) (hn:xs.length = n) (hnb:n≤9223372036854775807) (hl:Lim w a xs) (hw:Pl.Wf xs) (hk:ys.length = k) (hkb:k≤9223372036854775807) (hly:Lim w b ys) (hwy:Pl.Wf ys) :
  (∀ W:World,Below w.heap.size w W→Calls Tryz.prog 13 #[.agg #[.int .i64 E,.int .i64 F],.agg #[.bool s,.slice a n c,.slice b k l]] W fun e W'=>e = .returned (.bool false)∧Below W.heap.size W W') ∨
  ((∃ e f:Nat,E = (e:Int)∧F = (f:Int)∧Fo e f)∧∃ p d:Nat,Num w a n p∧Num w b k d∧0 < d∧Nat.gcd p d = 1∧(s = true→0 < p)∧blen p≤1920∧blen d≤1920∧(∀ W:World,Num W a n p→Num W b k d→Calls Tryz.prog 22 #[.agg #[.bool s,.slice a n c,.slice b k l]] W fun e W'=>e = .returned (.int .i64 0)∧Below W.heap.size W W') ∧
   ∀ W:World,Below w.heap.size w W→Calls Tryz.prog 13 #[.agg #[.int .i64 E,.int .i64 F],.agg #[.bool s,.slice a n c,.slice b k l]] W fun e W'=>e = .returned (.bool true)∧Below W.heap.size W W'):=by
 by_cases hf:E < 2∨11 < E∨F < 1∨52 < F
 ·exact Or.inl fun W _=>sask_f W E F s a b n c k l 5 (by decide) (hide fun W' _=>check_bad E F W' hf)
 obtain ⟨e,rfl⟩:∃ e:Nat,E = (e:Int):=⟨E.toNat,by omega⟩
 obtain ⟨f,rfl⟩:∃ f:Nat,F = (f:Int):=⟨F.toNat,by omega⟩
 have hfo:Fo e f:=⟨by omega,by omega,by omega,by omega⟩
 rcases rk_any s a b n c k l xs ys w hn hnb hl hw hk hkb hly hwy with h|⟨p,d,gN,gD,hD0,hg,hs,hC⟩
 ·exact Or.inl fun W hW=>sask_r W e f s a b n c k l 20 (by decide) (hide fun W' _=>check_ok e f W' hfo) (hide fun W' hW'=>h W' (gr_trans hW hW'))
 by_cases h6:60 < n
 ·exact Or.inl fun W hW=>sask_n W e f s a b n c k l h6 (hide fun W' _=>check_ok e f W' hfo) (hide fun W' hW'=>hC W' (gN.kept (gr_trans hW hW')) (gD.kept (gr_trans hW hW')))
 by_cases h7:60 < k
 ·exact Or.inl fun W hW=>sask_d W e f s a b n c k l (by omega) h7 (hide fun W' _=>check_ok e f W' hfo) (hide fun W' hW'=>hC W' (gN.kept (gr_trans hW hW')) (gD.kept (gr_trans hW hW')))
 exact Or.inr ⟨⟨e,f,rfl,rfl,hfo⟩,p,d,gN,gD,hD0,hg,hs,num_len gN (by omega),num_len gD (by omega),hC,fun W hW=>sask_ok W e f s a b n c k l (by omega) (by omega) (hide fun W' _=>check_ok e f W' hfo) (hide fun W' hW'=>hC W' (gN.kept (gr_trans hW hW')) (gD.kept (gr_trans hW hW')))⟩
def capR (I md:Nat) (s:Bool) (r:Nat):Nat:=if r < I then r else if fth md s false 1 then I else I - 1
theorem capR_mono {I md:Nat} {s:Bool} {r r':Nat} (h:r≤r'):capR I md s r≤capR I md s r':=by
 unfold capR
 by_cases h1:r < I
 ·rw [if_pos h1]
  by_cases h2:r' < I
  ·rw [if_pos h2]; exact h
  ·rw [if_neg h2]; split <;> omega
 ·have h2:¬ r' < I:=by omega
  exact Nat.le_of_eq (by rw [if_neg h1,if_neg h2])
theorem capR_le {I md:Nat} {s:Bool} {r:Nat}:capR I md s r≤I:=by
 unfold capR
 split
 ·omega
 ·split <;> omega
def Kf (B F I md:Nat) (s:Bool) (p d r:Nat):Prop:=(p = 0∧r = 0)∨(0 < p∧∃ (j n b z M K:Nat) (X:Int),Std p d j n b z M K X∧r = capR I md s (rowR B F md s M K X))
theorem Kf.mono {B F I md:Nat} {s:Bool} {p d r p' d' r':Nat} (h:Kf B F I md s p d r) (h':Kf B F I md s p' d' r') (hd':0 < d') (hF:F≤52) (hle:p * d'≤p' * d):r≤r':=by
 rcases h with ⟨_,rfl⟩|⟨h0,j,n,b,z,M,K,X,hs,rfl⟩
 ·exact Nat.zero_le _
 ·rcases h' with ⟨h1,_⟩|⟨h1,j',n',b',z',M',K',X',hs',rfl⟩
  ·rw [h1,Nat.zero_mul] at hle
   have:=Nat.mul_pos h0 hd'
   omega
  ·exact capR_mono (rowR_mono hs hs' hF hle)
def kI (s:Bool) (r:Nat):Int:=if s then -(r:Int) else (r:Int)
theorem kf_ord {B F I md:Nat} {s t:Bool} {p d r p' d' r':Nat} (h:Kf B F I md s p d r) (h':Kf B F I md t p' d' r') (hd:0 < d) (hd':0 < d') (ht:t = true→0 < p') (hF:F≤52) (hle:Rm.sgn s p * (d':Int)≤Rm.sgn t p' * (d:Int)):kI s r≤kI t r':=by
 rw [← Rm.sgn_scale,← Rm.sgn_scale] at hle
 have hp:t = true→0 < p' * d:=fun e=>Nat.mul_pos (ht e) hd
 have m1:s = t→p * d'≤p' * d→r≤r':=fun e q=>by subst e; exact h.mono h' hd' hF q
 have m2:s = t→p' * d≤p * d'→r'≤r:=fun e q=>by subst e; exact h'.mono h hd hF q
 generalize p * d' = U at *
 generalize p' * d = V at *
 cases s <;> cases t <;> simp only [Rm.sgn,kI,if_true,Bool.false_eq_true,if_false] at hle ⊢
 ·have:=m1 rfl (by omega); omega
 ·have:=hp rfl; omega
 ·omega
 ·have:=m2 rfl (by omega); omega
theorem sratio_zero {E F S I md:Nat} (h:Fm E F S I) (hm:md≤4) (a b:Option Addr) (n c k l d:Nat) (w:World) (hT:Tb w) (h1:Num w a n 0) (h2:Num w b k d) (HC:∀ W:World,Num W a n 0→Num W b k d→Calls Tryz.prog 22 #[.agg #[.bool false,.slice a n c,.slice b k l]] W fun e W'=>e = .returned (.int .i64 0)∧Below W.heap.size W W') :
  Calls Tryz.prog 8 #[.agg #[.int .i64 E,.int .i64 F],.agg #[.bool false,.slice a n c,.slice b k l],.bool false,.int .u8 (md:Int)] w fun e w'=>e = .returned (.tuple #[.int .u64 ((0:Nat):Int),.int .u8 ((0:Nat):Int),.int .i64 0])∧Below w.heap.size w w':=by
 refine sratio_w w E F md false false a b n c k l 0 d 0 0 h1 h2 (hide fun W hb q1 q2=>?_)
 refine sscaled_is W E F md false false a b n c k l 0 d 0 0 0 0 h.fo hm (hT.kept hb) q1 q2 (hide HC) (hide fun W _ r1 _=>?_) (hide fun W B9 A N C g=>?_)
 ·exact (sstand_0 W false a b n c k l r1).mono fun e W' ⟨h1,h2⟩=>⟨⟨none,0,0,h1,⟨[],rfl,Or.inl ⟨rfl,rfl⟩,Pl.wf_nil,Pl.norm_nil,rfl,by omega⟩⟩,h2⟩
 ·obtain rfl:=g.num.zero.2 rfl
  exact rounded_nought E F 0 md false h.fo A C W ⟨pow_pos2 _,pow_pos2 _,by simp⟩
theorem srat_any {E F S I B md:Nat} (h:Fm E F S I) (hB:B = 2 ^ (E - 1) - 1) (hm:md≤4) (s:Bool) (a b:Option Addr) (n c k l p d:Nat) (hd:0 < d) (hs:s = true→0 < p) (bp:blen p≤1920) (bd:blen d≤1920)
  (HC:∀ W:World,Num W a n p→Num W b k d→Calls Tryz.prog 22 #[.agg #[.bool s,.slice a n c,.slice b k l]] W fun e W'=>e = .returned (.int .i64 0)∧Below W.heap.size W W') :
  ∃ r fl:Nat,Kf B F I md s p d r∧r < S∧∀ W:World,Tb W→Num W a n p→Num W b k d→Calls Tryz.prog 8 #[.agg #[.int .i64 (E:Int),.int .i64 (F:Int)],.agg #[.bool s,.slice a n c,.slice b k l],.bool false,.int .u8 (md:Int)] W fun e w'=>e = .returned (.tuple #[.int .u64 (((if s then S else 0)+r:Nat):Int),.int .u8 (fl:Int),.int .i64 0])∧Below W.heap.size W w':=by
 rcases Nat.eq_zero_or_pos p with h0|h0
 ·obtain rfl:s = false:=by
   cases s
   ·rfl
   ·have:=hs rfl; omega
  subst h0
  exact ⟨0,0,Or.inl ⟨rfl,rfl⟩,h.pos,fun W hT h1 h2=>sratio_zero h hm a b n c k l d W hT h1 h2 HC⟩
 ·obtain ⟨K,hK⟩:∃ K,K = 6000:=⟨_,rfl⟩
  have hl:sLift p d≤1920:=by unfold sLift; omega
  have hmo:sMore p d≤1985:=by unfold sMore; omega
  have hall:sAll p d < 2 ^ K:=by
   have e:sAll p d = p * 2 ^ (sLift p d+sMore p d):=by unfold sAll sOne; rw [Nat.pow_add,Nat.mul_assoc]
   rw [e]
   refine Nat.lt_of_lt_of_le (Nat.mul_lt_mul_of_pos_right (bl_blen p).1 (Nat.pow_pos (by omega))) ?_
   rw [← Nat.pow_add]
   exact Nat.pow_le_pow_right (by omega) (by omega)
  have hpos:0 < sAll p d:=Nat.mul_pos (Nat.mul_pos h0 (Nat.pow_pos (by omega))) (Nat.pow_pos (by omega))
  have hdm:=Nat.div_add_mod (sAll p d) d
  have hdl:sAll p d / d≤sAll p d:=Nat.div_le_self _ _
  have a1:0 < sAns p d:=by
   unfold sAns
   split
   ·next e=>
    rw [e] at hdm
    rcases Nat.eq_zero_or_pos (sAll p d / d) with q|q
    ·rw [q] at hdm; omega
    ·omega
   ·omega
  have a2:sAns p d < 2 ^ (K+1):=by
   rw [Nat.pow_succ]
   unfold sAns
   split <;> omega
  obtain ⟨z,⟨q,hq⟩,hz⟩:=tz_ex a1 a2
  refine ⟨capR I md s (rowR B F md s (2 * q+1) (blen (2 * q+1)) (sExp p d+(z:Int))),flagR B F I md s (2 * q+1) (blen (2 * q+1)) (sExp p d+(z:Int)),Or.inr ⟨h0,_,_,_,_,_,_,_,std_of h0 hd hq (bl_blen _),rfl⟩,Nat.lt_of_le_of_lt capR_le h.lt,fun W hT h1 h2=>?_⟩
  exact sratio_is h hB hm false s a b n c k l p d W hT h1 h2 (by omega) hd (by omega) (by omega) (by omega) (by omega) (hide HC) z (2 * q+1) (blen (2 * q+1)) _ ⟨q,hq⟩ (by omega) (by rw [hq,Nat.mul_div_cancel_left _ (Nat.pow_pos (by omega))]) rfl (bl_blen _)
theorem key_any {E F S I:Nat} (h:Fm E F S I) (s:Bool) (r:Nat) (hr:r < S) (W:World):Calls Tryz.prog 15 #[.agg #[.int .i64 (E:Int),.int .i64 (F:Int)],.int .u64 (((if s then S else 0)+r:Nat):Int)] W fun e w'=>e = .returned (.int .i64 (kI s r))∧Below W.heap.size W w':=by
 have hS:S = 2 ^ (E+F):=by rw [Nat.add_comm]; exact h.hS
 have h63:E+F≤63:=by have:=h.fo.sum; omega
 cases s
 ·rw [show ((if false = true then S else 0)+r:Nat) = r from by simp]
  exact skey_lo W E F (E+F) S r rfl h63 hS h.s63 hr
 ·exact skey_hi W E F (E+F) S r rfl h63 hS h.s63 hr
theorem salive_is (w:World) (hT:Tb w) (hN:Nb5 w) :
  Calls Tryz.prog 6 #[] w fun en w'=>en = .returned (.bool true)∧Below w.heap.size w w':=by
 refine calls_sym Tryz.func6 rfl (by kernel_rfl) fun T hK=>?_
 replace hK:Kn T _ []:=hK
 have hS:=Fb.begin w
 have hG:GsAt [] w:=trivial
 refine wp_symQ hS hG hK (fun p1=>[.v 0 (.bool false)]) (fun p1=>[(0,.bool false)]) (by kernel_rfl) (fun _ _=>by kernel_rfl) (fun _=>by kernel_rfl) (fun _=>by kernel_rfl) (fun p1=>?_) (fun p1 W1 T hF hK=>?_)
 ·refine ok_v (by kernel_rfl) ?_
  exact ok_nil
 replace hS:=SymF.fb hS hF [] [] (by kernel_rfl) (by kernel_rfl)
 replace hG:=hF.gx
 clear hF
 have z1:=hS.fr.size
 refine wp_symQ hS hG hK (fun p2=>[.c (some 15) (cH W1.heap.size 1 3 fun x9 y9=>.tuple #[.agg #[.bool true,x9,y9],.int .i64 0]),.v 14 (.tuple #[.agg #[.bool true,.slice (p2 0).A (p2 0).N (p2 0).C,.slice (p2 0).A' (p2 0).N' (p2 0).C'],.int .i64 0]),.v 16 (.agg #[.bool true,.slice (p2 0).A (p2 0).N (p2 0).C,.slice (p2 0).A' (p2 0).N' (p2 0).C']),.v 17 (.int .i64 0),.n 1 #[.bool false,.slice none 0 0,.slice none 0 0] 27,.p 1004 0 [.bool true,.slice (p2 0).A (p2 0).N (p2 0).C,.slice (p2 0).A' (p2 0).N' (p2 0).C'],.v 2 (.int .i64 0)]) (fun p2=>[(0,.bool false),(1,.pointer (some ⟨(p2 4).N,0,none⟩)),(2,.int .i64 0)]) (by kernel_rfl) (fun _ _=>by kernel_rfl) (fun _=>by kernel_rfl) (fun _=>by kernel_rfl) (fun p2=>?_) (fun p2 W2 T hF hK=>?_)
 ·refine ok_c (fun W cx=>as_h cx.hb (frac_is true 1 3 (by decide) (by decide) (by decide) (by decide) (by decide) _)) (by kernel_rfl) ?_
  iterate 3 refine ok_v (by kernel_rfl) ?_
  refine ok_n (fun _=>by kernel_rfl) ?_
  refine ok_P (by kernel_rfl) (by kernel_rfl) (by kernel_rfl) ?_
  refine ok_v (by kernel_rfl) ?_
  exact ok_nil
 replace hS:=SymF.fb hS hF [1004] [⟨(p2 4).N,#[.bool true,.slice (p2 0).A (p2 0).N (p2 0).C,.slice (p2 0).A' (p2 0).N' (p2 0).C'],27,true⟩] (by kernel_rfl) (by kernel_rfl)
 replace hG:GsAt (gM W1.heap.size (p2 0).A (p2 0).N (p2 0).C 1 :: gM W1.heap.size (p2 0).A' (p2 0).N' (p2 0).C' 3 :: _) W2:=⟨And.left (hF.fx 0),And.right (hF.fx 0),hF.gx⟩
 clear hF
 have z2:=hS.fr.size
 refine wp_symQ hS hG hK (fun p3=>[.c (some 19) (cH W2.heap.size 5 2 fun x9 y9=>.tuple #[.agg #[.bool false,x9,y9],.int .i64 0]),.v 18 (.tuple #[.agg #[.bool false,.slice (p3 0).A (p3 0).N (p3 0).C,.slice (p3 0).A' (p3 0).N' (p3 0).C'],.int .i64 0]),.v 20 (.agg #[.bool false,.slice (p3 0).A (p3 0).N (p3 0).C,.slice (p3 0).A' (p3 0).N' (p3 0).C']),.v 21 (.int .i64 0),.n 3 #[.bool false,.slice none 0 0,.slice none 0 0] 27,.p 1004 0 [.bool false,.slice (p3 0).A (p3 0).N (p3 0).C,.slice (p3 0).A' (p3 0).N' (p3 0).C'],.v 4 (.int .i64 0)]) (fun p3=>[(0,.bool false),(1,.pointer (some ⟨(p2 4).N,0,none⟩)),(2,.int .i64 0),(3,.pointer (some ⟨(p3 4).N,0,none⟩)),(4,.int .i64 0)]) (by kernel_rfl) (fun _ _=>by kernel_rfl) (fun _=>by kernel_rfl) (fun _=>by kernel_rfl) (fun p3=>?_) (fun p3 W3 T hF hK=>?_)
 ·refine ok_c (fun W cx=>as_h cx.hb (frac_is false 5 2 (by decide) (by decide) (by decide) (by decide) (by decide) _)) (by kernel_rfl) ?_
  iterate 3 refine ok_v (by kernel_rfl) ?_
  refine ok_n (fun _=>by kernel_rfl) ?_
  refine ok_P (by kernel_rfl) (by kernel_rfl) (by kernel_rfl) ?_
  refine ok_v (by kernel_rfl) ?_
  exact ok_nil
 replace hS:=SymF.fb hS hF [0,1004] [⟨(p2 4).N,#[.bool true,.slice (p2 0).A (p2 0).N (p2 0).C,.slice (p2 0).A' (p2 0).N' (p2 0).C'],27,true⟩,⟨(p3 4).N,#[.bool false,.slice (p3 0).A (p3 0).N (p3 0).C,.slice (p3 0).A' (p3 0).N' (p3 0).C'],27,true⟩] (by kernel_rfl) (by kernel_rfl)
 replace hG:GsAt (gM W2.heap.size (p3 0).A (p3 0).N (p3 0).C 5 :: gM W2.heap.size (p3 0).A' (p3 0).N' (p3 0).C' 2 :: _) W3:=⟨And.left (hF.fx 0),And.right (hF.fx 0),hF.gx⟩
 clear hF
 have z3:=hS.fr.size
 refine wp_symQ hS hG hK (fun p4=>[.v 23 (.agg #[.int .i64 5,.int .i64 10]),.l 24 (.agg #[.bool true,.slice (p2 0).A (p2 0).N (p2 0).C,.slice (p2 0).A' (p2 0).N' (p2 0).C']) 0 0,.c (some 25) (cV (.tuple #[.int .u64 46421,.int .u8 1,.int .i64 0])),.v 22 (.tuple #[.int .u64 46421,.int .u8 1,.int .i64 0]),.v 26 (.int .u64 46421),.v 27 (.int .u8 1),.v 28 (.int .i64 0),.v 5 (.int .u64 46421),.v 6 (.int .u8 1),.v 7 (.int .i64 0)]) (fun p4=>[(0,.bool false),(2,.int .i64 0),(3,.pointer (some ⟨(p3 4).N,0,none⟩)),(4,.int .i64 0),(5,.int .u64 46421),(6,.int .u8 1),(7,.int .i64 0)]) (by kernel_rfl) (fun _ _=>by kernel_rfl) (fun _=>by kernel_rfl) (fun _=>by kernel_rfl) (fun p4=>?_) (fun p4 W4 T hF hK=>?_)
 ·refine ok_v (by kernel_rfl) ?_
  refine ok_L (by kernel_rfl) (by kernel_rfl) (by kernel_rfl) ?_
  refine ok_c (fun W cx=>as_v (rat_c 5 10 15 32768 31744 0 true false 1 3 0 24595658764946068821 66 46421 1 (-67) ⟨by decide,by decide,by decide,by decide⟩ (by decide) (by decide) (by decide) (by decide) (by decide) (by decide) (by decide) (by decide) (by decide) (by kernel_rfl) (by decide) (by kernel_rfl) (by kernel_rfl) (by kernel_rfl) (by kernel_rfl) _ _ _ (p2 0).C _ (p2 0).C' _ (hT.kept cx.fr) (Mine.num cx.G.2.2.1) (Mine.num cx.G.2.2.2.1))) (by kernel_rfl) ?_
  iterate 7 refine ok_v (by kernel_rfl) ?_
  exact ok_nil
 replace hS:=SymF.fb hS hF [1] [⟨(p3 4).N,#[.bool false,.slice (p3 0).A (p3 0).N (p3 0).C,.slice (p3 0).A' (p3 0).N' (p3 0).C'],27,true⟩] (by kernel_rfl) (by kernel_rfl)
 replace hG:=hF.gx
 clear hF
 have z4:=hS.fr.size
 refine wp_symQ hS hG hK (fun p5=>[.l 30 (.agg #[.bool false,.slice (p3 0).A (p3 0).N (p3 0).C,.slice (p3 0).A' (p3 0).N' (p3 0).C']) 0 0,.c (some 31) (cG W4.heap.size 2 fun x9=>.tuple #[.bool false,.agg #[x9],.bool false,.int .i64 0]),.v 29 (.tuple #[.bool false,.agg #[.slice (p5 1).A (p5 1).N (p5 1).C],.bool false,.int .i64 0]),.v 32 (.bool false),.v 33 (.agg #[.slice (p5 1).A (p5 1).N (p5 1).C]),.v 34 (.bool false),.v 35 (.int .i64 0),.n 9 #[.slice none 0 0] 25,.v 8 (.bool false),.p 1007 0 [.slice (p5 1).A (p5 1).N (p5 1).C],.v 10 (.bool false),.v 11 (.int .i64 0)]) (fun p5=>[(0,.bool false),(2,.int .i64 0),(4,.int .i64 0),(5,.int .u64 46421),(6,.int .u8 1),(7,.int .i64 0),(8,.bool false),(9,.pointer (some ⟨(p5 7).N,0,none⟩)),(10,.bool false),(11,.int .i64 0)]) (by kernel_rfl) (fun _ _=>by kernel_rfl) (fun _=>by kernel_rfl) (fun _=>by kernel_rfl) (fun p5=>?_) (fun p5 W5 T hF hK=>?_)
 ·refine ok_L (by kernel_rfl) (by kernel_rfl) (by kernel_rfl) ?_
  refine ok_c (fun W cx=>as_g cx.hb (whole_near _ _ (p3 0).C 5 _ _ (p3 0).C' 2 0 (by decide) 1 2 false (by decide) (by decide) (by decide) (by decide) (by decide) (farther_any 0 false false 0 (by decide) (Or.inr (Or.inl rfl))) _ (Mine.num cx.G.1) (Mine.num cx.G.2.1) (by decide) (hide fun W9 hb9=>rchk_ok false _ _ _ _ _ _ 5 2 (by decide) (by decide) (by decide) W9 (Num.kept (Mine.num cx.G.1) hb9) (Num.kept (Mine.num cx.G.2.1) hb9)))) (by kernel_rfl) ?_
  iterate 5 refine ok_v (by kernel_rfl) ?_
  refine ok_n (fun _=>by kernel_rfl) ?_
  refine ok_v (by kernel_rfl) ?_
  refine ok_P (by kernel_rfl) (by kernel_rfl) (by kernel_rfl) ?_
  iterate 2 refine ok_v (by kernel_rfl) ?_
  exact ok_nil
 replace hS:=SymF.fb hS hF [1007] [⟨(p5 7).N,#[.slice (p5 1).A (p5 1).N (p5 1).C],25,true⟩] (by kernel_rfl) (by kernel_rfl)
 replace hG:GsAt (gM W4.heap.size (p5 1).A (p5 1).N (p5 1).C 2 :: _) W5:=⟨hF.fx 1,hF.gx⟩
 clear hF
 have z5:=hS.fr.size
 refine wp_symQ hS hG hK (fun p6=>[.c (some 37) (cV (.tuple #[.int .u8 1,.bool true])),.v 36 (.tuple #[.int .u8 1,.bool true]),.v 38 (.int .u8 1),.v 39 (.bool true),.v 12 (.int .u8 1),.v 13 (.bool true)]) (fun p6=>[(0,.bool false),(2,.int .i64 0),(4,.int .i64 0),(5,.int .u64 46421),(6,.int .u8 1),(7,.int .i64 0),(8,.bool false),(9,.pointer (some ⟨(p5 7).N,0,none⟩)),(10,.bool false),(11,.int .i64 0),(12,.int .u8 1),(13,.bool true)]) (by kernel_rfl) (fun _ _=>by kernel_rfl) (fun _=>by kernel_rfl) (fun _=>by kernel_rfl) (fun p6=>?_) (fun p6 W6 T hF hK=>?_)
 ·refine ok_c (fun W cx=>as_v (named_1 ⟨#[97,119,97,121]⟩ _ (hN.kept cx.fr) (by kernel_rfl) (by kernel_rfl))) (by kernel_rfl) ?_
  iterate 5 refine ok_v (by kernel_rfl) ?_
  exact ok_nil
 replace hS:=SymF.fb hS hF [0] [⟨(p5 7).N,#[.slice (p5 1).A (p5 1).N (p5 1).C],25,true⟩] (by kernel_rfl) (by kernel_rfl)
 replace hG:=hF.gx
 clear hF
 have z6:=hS.fr.size
 obtain ⟨eN,b9,eA,hc9⟩:=Mine.limb hG.1 (by decide) (by decide)
 rw [eA,eN] at hS
 replace hG:GsAt (gL b9 0 2 :: _) W6:=⟨hc9,hG⟩
 refine wp_symQ hS hG hK (fun p7=>[.v 40 (.int .i64 0),.v 41 (.bool true),.v 42 (.bool true),.v 43 (.int .i64 0),.v 44 (.bool true),.v 45 (.bool true),.v 46 (.bool true),.v 47 (.int .i64 0),.v 48 (.bool true),.v 49 (.bool true),.v 50 (.bool true),.v 51 (.int .i64 0),.v 52 (.bool true),.v 53 (.bool true),.v 54 (.bool true),.v 55 (.int .u64 46421),.v 56 (.bool true),.v 57 (.bool true),.v 58 (.bool true),.v 59 (.int .u8 1),.v 60 (.bool true),.v 61 (.bool true),.v 62 (.bool true),.v 63 (.bool false),.v 64 (.bool true),.v 65 (.bool true),.v 66 (.bool true),.v 67 (.bool false),.v 68 (.bool true),.v 69 (.bool true),.v 70 (.bool true),.v 71 (.pointer (some ⟨(p5 7).N,0,none⟩)),.l 72 (.slice (some ⟨b9,0,none⟩) 1 (p5 1).C) 0 0,.v 73 (.int .i64 1),.v 74 (.bool true),.v 75 (.bool true),.v 76 (.bool true),.v 77 (.pointer (some ⟨(p5 7).N,0,none⟩)),.l 78 (.slice (some ⟨b9,0,none⟩) 1 (p5 1).C) 0 0,.v 79 (.pointer (some ⟨b9,0,none⟩)),.g 80 (.int .u32 2) [.int .u32 2] [.ld ⟨b9,0,none⟩ (.int .u32 2)],.v 81 (.bool true),.v 82 (.bool true),.v 83 (.bool true),.v 84 (.int .u8 1),.v 85 (.bool true),.v 86 (.bool true),.v 87 (.bool true),.v 88 (.bool true),.v 89 (.bool true),.v 0 (.bool true)]) (fun p7=>[(0,.bool true)]) (by kernel_rfl) (fun _ _=>by kernel_rfl) (fun _=>by kernel_rfl) (fun _=>by kernel_rfl) (fun p7=>?_) (fun p7 W7 T hF hK=>?_)
 ·iterate 32 refine ok_v (by kernel_rfl) ?_
  refine ok_L (by kernel_rfl) (by kernel_rfl) (by kernel_rfl) ?_
  iterate 5 refine ok_v (by kernel_rfl) ?_
  refine ok_L (by kernel_rfl) (by kernel_rfl) (by kernel_rfl) ?_
  refine ok_v (by kernel_rfl) ?_
  refine ok_g (fun W cx=>⟨⟨cx.G.1,trivial⟩,rfl⟩) (by kernel_rfl) ?_
  iterate 10 refine ok_v (by kernel_rfl) ?_
  exact ok_nil
 replace hS:=SymF.fb hS hF [] [] (by kernel_rfl) (by kernel_rfl)
 replace hG:=hF.gx
 clear hF
 have z7:=hS.fr.size
 refine wp_ret ?_
 exact sym_end hS hK (.bool true) [] [] (by kernel_rfl) (by kernel_rfl) ⟨rfl,hS.fr⟩
theorem ord_one (w:World) (E F:Int) (md:Nat) (s t:Bool) (a b a' b':Option Addr) (n c k l n' c' k' l':Nat) (b2:Bool) (hT:Tb w) (hN:Nb5 w)  (H1:Hid (∀ W:World,Below w.heap.size w W→Calls Tryz.prog 13 #[.agg #[.int .i64 E,.int .i64 F],.agg #[.bool s,.slice a n c,.slice b k l]] W fun e W'=>e = .returned (.bool false)∧Below W.heap.size W W')) (H2:Hid (∀ W:World,Below w.heap.size w W→Calls Tryz.prog 13 #[.agg #[.int .i64 E,.int .i64 F],.agg #[.bool t,.slice a' n' c',.slice b' k' l']] W fun e W'=>e = .returned (.bool b2)∧Below W.heap.size W W')) :
  Calls Tryz.prog 5 #[.agg #[.int .i64 E,.int .i64 F],.agg #[.bool s,.slice a n c,.slice b k l],.agg #[.bool t,.slice a' n' c',.slice b' k' l'],.int .u8 (md:Int)] w fun en w'=>en = .returned (.bool true)∧Below w.heap.size w w':=by
 refine calls_sym Tryz.func5 rfl (by kernel_rfl) fun T hK=>?_
 replace hK:Kn T _ [(0,.agg #[.int .i64 E,.int .i64 F]),(1,.agg #[.bool s,.slice a n c,.slice b k l]),(2,.agg #[.bool t,.slice a' n' c',.slice b' k' l']),(3,.int .u8 (md:Int))]:=hK
 have hS:=Fb.begin w
 have hG:GsAt [] w:=trivial
 refine wp_symQ hS hG hK (fun p1=>[.n 4 #[.int .i64 E,.int .i64 F] 33,.n 5 #[.bool s,.slice a n c,.slice b k l] 27,.n 6 #[.bool t,.slice a' n' c',.slice b' k' l'] 27,.v 8 (.bool false)]) (fun p1=>[(3,.int .u8 (md:Int)),(4,.pointer (some ⟨(p1 0).N,0,none⟩)),(5,.pointer (some ⟨(p1 1).N,0,none⟩)),(6,.pointer (some ⟨(p1 2).N,0,none⟩)),(8,.bool false)]) (by kernel_rfl) (fun _ _=>by kernel_rfl) (fun _=>by kernel_rfl) (fun _=>by kernel_rfl) (fun p1=>?_) (fun p1 W1 T hF hK=>?_)
 ·iterate 3 refine ok_n (fun _=>by kernel_rfl) ?_
  refine ok_v (by kernel_rfl) ?_
  exact ok_nil
 replace hS:=SymF.fb hS hF [1000,1001,1002] [⟨(p1 0).N,#[.int .i64 E,.int .i64 F],33,true⟩,⟨(p1 1).N,#[.bool s,.slice a n c,.slice b k l],27,true⟩,⟨(p1 2).N,#[.bool t,.slice a' n' c',.slice b' k' l'],27,true⟩] (by kernel_rfl) (by kernel_rfl)
 replace hG:=hF.gx
 clear hF
 have z1:=hS.fr.size
 refine wp_symQ hS hG hK (fun p2=>[.c (some 22) (cV (.bool true)),.v 9 (.bool true)]) (fun p2=>[(3,.int .u8 (md:Int)),(4,.pointer (some ⟨(p1 0).N,0,none⟩)),(5,.pointer (some ⟨(p1 1).N,0,none⟩)),(6,.pointer (some ⟨(p1 2).N,0,none⟩)),(8,.bool false),(9,.bool true)]) (by kernel_rfl) (fun _ _=>by kernel_rfl) (fun _=>by kernel_rfl) (fun _=>by kernel_rfl) (fun p2=>?_) (fun p2 W2 T hF hK=>?_)
 ·refine ok_c (fun W cx=>as_v (salive_is _ (hT.kept cx.fr) (hN.kept cx.fr))) (by kernel_rfl) ?_
  refine ok_v (by kernel_rfl) ?_
  exact ok_nil
 replace hS:=SymF.fb hS hF [0,1,2] [⟨(p1 0).N,#[.int .i64 E,.int .i64 F],33,true⟩,⟨(p1 1).N,#[.bool s,.slice a n c,.slice b k l],27,true⟩,⟨(p1 2).N,#[.bool t,.slice a' n' c',.slice b' k' l'],27,true⟩] (by kernel_rfl) (by kernel_rfl)
 replace hG:=hF.gx
 clear hF
 have z2:=hS.fr.size
 refine wp_symQ hS hG hK (fun p3=>[.l 23 (.agg #[.int .i64 E,.int .i64 F]) 0 0,.l 24 (.agg #[.bool s,.slice a n c,.slice b k l]) 1 0,.c (some 25) (cV (.bool false)),.v 10 (.bool false)]) (fun p3=>[(3,.int .u8 (md:Int)),(4,.pointer (some ⟨(p1 0).N,0,none⟩)),(5,.pointer (some ⟨(p1 1).N,0,none⟩)),(6,.pointer (some ⟨(p1 2).N,0,none⟩)),(8,.bool false),(9,.bool true),(10,.bool false)]) (by kernel_rfl) (fun _ _=>by kernel_rfl) (fun _=>by kernel_rfl) (fun _=>by kernel_rfl) (fun p3=>?_) (fun p3 W3 T hF hK=>?_)
 ·iterate 2 refine ok_L (by kernel_rfl) (by kernel_rfl) (by kernel_rfl) ?_
  refine ok_c (fun W cx=>as_v (unhide H1 _ cx.fr)) (by kernel_rfl) ?_
  refine ok_v (by kernel_rfl) ?_
  exact ok_nil
 replace hS:=SymF.fb hS hF [0,1,2] [⟨(p1 0).N,#[.int .i64 E,.int .i64 F],33,true⟩,⟨(p1 1).N,#[.bool s,.slice a n c,.slice b k l],27,true⟩,⟨(p1 2).N,#[.bool t,.slice a' n' c',.slice b' k' l'],27,true⟩] (by kernel_rfl) (by kernel_rfl)
 replace hG:=hF.gx
 clear hF
 have z3:=hS.fr.size
 refine wp_symQ hS hG hK (fun p4=>[.l 26 (.agg #[.int .i64 E,.int .i64 F]) 0 0,.l 27 (.agg #[.bool t,.slice a' n' c',.slice b' k' l']) 2 0,.c (some 28) (cV (.bool b2)),.v 11 (.bool b2)]) (fun p4=>[(3,.int .u8 (md:Int)),(4,.pointer (some ⟨(p1 0).N,0,none⟩)),(5,.pointer (some ⟨(p1 1).N,0,none⟩)),(6,.pointer (some ⟨(p1 2).N,0,none⟩)),(8,.bool false),(9,.bool true),(10,.bool false),(11,.bool b2)]) (by kernel_rfl) (fun _ _=>by kernel_rfl) (fun _=>by kernel_rfl) (fun _=>by kernel_rfl) (fun p4=>?_) (fun p4 W4 T hF hK=>?_)
 ·iterate 2 refine ok_L (by kernel_rfl) (by kernel_rfl) (by kernel_rfl) ?_
  refine ok_c (fun W cx=>as_v (unhide H2 _ cx.fr)) (by kernel_rfl) ?_
  refine ok_v (by kernel_rfl) ?_
  exact ok_nil
 replace hS:=SymF.fb hS hF [0,1,2] [⟨(p1 0).N,#[.int .i64 E,.int .i64 F],33,true⟩,⟨(p1 1).N,#[.bool s,.slice a n c,.slice b k l],27,true⟩,⟨(p1 2).N,#[.bool t,.slice a' n' c',.slice b' k' l'],27,true⟩] (by kernel_rfl) (by kernel_rfl)
 replace hG:=hF.gx
 clear hF
 have z4:=hS.fr.size
 refine wp_seq ?_
 refine wp_symQ hS hG hK (fun p5=>[.v 29 (.bool false),.v 30 (.bool true),.v 31 (.bool true),.k (some 32),.k (some 33),.v 34 (.bool true),.v 35 (.bool true),.k (some 36),.k (some 37),.v 38 (.bool true)]) (fun p5=>[(3,.int .u8 (md:Int)),(4,.pointer (some ⟨(p1 0).N,0,none⟩)),(5,.pointer (some ⟨(p1 1).N,0,none⟩)),(6,.pointer (some ⟨(p1 2).N,0,none⟩)),(8,.bool false),(9,.bool true),(38,.bool true)]) (by kernel_rfl) (fun _ _=>by kernel_rfl) (fun _=>by kernel_rfl) (fun _=>by kernel_rfl) (fun p5=>?_) (fun p5 W5 T hF hK=>?_)
 ·iterate 3 refine ok_v (by kernel_rfl) ?_
  iterate 2 refine ok_K (by kernel_rfl) ?_
  iterate 2 refine ok_v (by kernel_rfl) ?_
  iterate 2 refine ok_K (by kernel_rfl) ?_
  refine ok_v (by kernel_rfl) ?_
  exact ok_nil
 replace hS:=SymF.fb hS hF [0,1,2] [⟨(p1 0).N,#[.int .i64 E,.int .i64 F],33,true⟩,⟨(p1 1).N,#[.bool s,.slice a n c,.slice b k l],27,true⟩,⟨(p1 2).N,#[.bool t,.slice a' n' c',.slice b' k' l'],27,true⟩] (by kernel_rfl) (by kernel_rfl)
 replace hG:=hF.gx
 clear hF
 have z5:=hS.fr.size
 refine wp_cond_true (hK.ev 38 (by kernel_rfl) _ (by kernel_rfl)) ?_
 refine wp_symQ hS hG hK (fun p6=>[.v 39 (.bool true),.v 8 (.bool true)]) (fun p6=>[(3,.int .u8 (md:Int)),(4,.pointer (some ⟨(p1 0).N,0,none⟩)),(5,.pointer (some ⟨(p1 1).N,0,none⟩)),(6,.pointer (some ⟨(p1 2).N,0,none⟩)),(8,.bool true),(9,.bool true),(38,.bool true)]) (by kernel_rfl) (fun _ _=>by kernel_rfl) (fun _=>by kernel_rfl) (fun _=>by kernel_rfl) (fun p6=>?_) (fun p6 W6 T hF hK=>?_)
 ·iterate 2 refine ok_v (by kernel_rfl) ?_
  exact ok_nil
 replace hS:=SymF.fb hS hF [0,1,2] [⟨(p1 0).N,#[.int .i64 E,.int .i64 F],33,true⟩,⟨(p1 1).N,#[.bool s,.slice a n c,.slice b k l],27,true⟩,⟨(p1 2).N,#[.bool t,.slice a' n' c',.slice b' k' l'],27,true⟩] (by kernel_rfl) (by kernel_rfl)
 replace hG:=hF.gx
 clear hF
 have z6:=hS.fr.size
 refine wp_ret ?_
 refine then_r ?_
 exact sym_end hS hK (.bool true) [] [] (by kernel_rfl) (by kernel_rfl) ⟨rfl,hS.fr⟩
theorem ord_two (w:World) (E F:Int) (md:Nat) (s t:Bool) (a b a' b':Option Addr) (n c k l n' c' k' l':Nat) (hT:Tb w) (hN:Nb5 w)  (H1:Hid (∀ W:World,Below w.heap.size w W→Calls Tryz.prog 13 #[.agg #[.int .i64 E,.int .i64 F],.agg #[.bool s,.slice a n c,.slice b k l]] W fun e W'=>e = .returned (.bool true)∧Below W.heap.size W W')) (H2:Hid (∀ W:World,Below w.heap.size w W→Calls Tryz.prog 13 #[.agg #[.int .i64 E,.int .i64 F],.agg #[.bool t,.slice a' n' c',.slice b' k' l']] W fun e W'=>e = .returned (.bool false)∧Below W.heap.size W W')) :
  Calls Tryz.prog 5 #[.agg #[.int .i64 E,.int .i64 F],.agg #[.bool s,.slice a n c,.slice b k l],.agg #[.bool t,.slice a' n' c',.slice b' k' l'],.int .u8 (md:Int)] w fun en w'=>en = .returned (.bool true)∧Below w.heap.size w w':=by
 refine calls_sym Tryz.func5 rfl (by kernel_rfl) fun T hK=>?_
 replace hK:Kn T _ [(0,.agg #[.int .i64 E,.int .i64 F]),(1,.agg #[.bool s,.slice a n c,.slice b k l]),(2,.agg #[.bool t,.slice a' n' c',.slice b' k' l']),(3,.int .u8 (md:Int))]:=hK
 have hS:=Fb.begin w
 have hG:GsAt [] w:=trivial
 refine wp_symQ hS hG hK (fun p1=>[.n 4 #[.int .i64 E,.int .i64 F] 33,.n 5 #[.bool s,.slice a n c,.slice b k l] 27,.n 6 #[.bool t,.slice a' n' c',.slice b' k' l'] 27,.v 8 (.bool false)]) (fun p1=>[(3,.int .u8 (md:Int)),(4,.pointer (some ⟨(p1 0).N,0,none⟩)),(5,.pointer (some ⟨(p1 1).N,0,none⟩)),(6,.pointer (some ⟨(p1 2).N,0,none⟩)),(8,.bool false)]) (by kernel_rfl) (fun _ _=>by kernel_rfl) (fun _=>by kernel_rfl) (fun _=>by kernel_rfl) (fun p1=>?_) (fun p1 W1 T hF hK=>?_)
 ·iterate 3 refine ok_n (fun _=>by kernel_rfl) ?_
  refine ok_v (by kernel_rfl) ?_
  exact ok_nil
 replace hS:=SymF.fb hS hF [1000,1001,1002] [⟨(p1 0).N,#[.int .i64 E,.int .i64 F],33,true⟩,⟨(p1 1).N,#[.bool s,.slice a n c,.slice b k l],27,true⟩,⟨(p1 2).N,#[.bool t,.slice a' n' c',.slice b' k' l'],27,true⟩] (by kernel_rfl) (by kernel_rfl)
 replace hG:=hF.gx
 clear hF
 have z1:=hS.fr.size
 refine wp_symQ hS hG hK (fun p2=>[.c (some 22) (cV (.bool true)),.v 9 (.bool true)]) (fun p2=>[(3,.int .u8 (md:Int)),(4,.pointer (some ⟨(p1 0).N,0,none⟩)),(5,.pointer (some ⟨(p1 1).N,0,none⟩)),(6,.pointer (some ⟨(p1 2).N,0,none⟩)),(8,.bool false),(9,.bool true)]) (by kernel_rfl) (fun _ _=>by kernel_rfl) (fun _=>by kernel_rfl) (fun _=>by kernel_rfl) (fun p2=>?_) (fun p2 W2 T hF hK=>?_)
 ·refine ok_c (fun W cx=>as_v (salive_is _ (hT.kept cx.fr) (hN.kept cx.fr))) (by kernel_rfl) ?_
  refine ok_v (by kernel_rfl) ?_
  exact ok_nil
 replace hS:=SymF.fb hS hF [0,1,2] [⟨(p1 0).N,#[.int .i64 E,.int .i64 F],33,true⟩,⟨(p1 1).N,#[.bool s,.slice a n c,.slice b k l],27,true⟩,⟨(p1 2).N,#[.bool t,.slice a' n' c',.slice b' k' l'],27,true⟩] (by kernel_rfl) (by kernel_rfl)
 replace hG:=hF.gx
 clear hF
 have z2:=hS.fr.size
 refine wp_symQ hS hG hK (fun p3=>[.l 23 (.agg #[.int .i64 E,.int .i64 F]) 0 0,.l 24 (.agg #[.bool s,.slice a n c,.slice b k l]) 1 0,.c (some 25) (cV (.bool true)),.v 10 (.bool true)]) (fun p3=>[(3,.int .u8 (md:Int)),(4,.pointer (some ⟨(p1 0).N,0,none⟩)),(5,.pointer (some ⟨(p1 1).N,0,none⟩)),(6,.pointer (some ⟨(p1 2).N,0,none⟩)),(8,.bool false),(9,.bool true),(10,.bool true)]) (by kernel_rfl) (fun _ _=>by kernel_rfl) (fun _=>by kernel_rfl) (fun _=>by kernel_rfl) (fun p3=>?_) (fun p3 W3 T hF hK=>?_)
 ·iterate 2 refine ok_L (by kernel_rfl) (by kernel_rfl) (by kernel_rfl) ?_
  refine ok_c (fun W cx=>as_v (unhide H1 _ cx.fr)) (by kernel_rfl) ?_
  refine ok_v (by kernel_rfl) ?_
  exact ok_nil
 replace hS:=SymF.fb hS hF [0,1,2] [⟨(p1 0).N,#[.int .i64 E,.int .i64 F],33,true⟩,⟨(p1 1).N,#[.bool s,.slice a n c,.slice b k l],27,true⟩,⟨(p1 2).N,#[.bool t,.slice a' n' c',.slice b' k' l'],27,true⟩] (by kernel_rfl) (by kernel_rfl)
 replace hG:=hF.gx
 clear hF
 have z3:=hS.fr.size
 refine wp_symQ hS hG hK (fun p4=>[.l 26 (.agg #[.int .i64 E,.int .i64 F]) 0 0,.l 27 (.agg #[.bool t,.slice a' n' c',.slice b' k' l']) 2 0,.c (some 28) (cV (.bool false)),.v 11 (.bool false)]) (fun p4=>[(3,.int .u8 (md:Int)),(4,.pointer (some ⟨(p1 0).N,0,none⟩)),(5,.pointer (some ⟨(p1 1).N,0,none⟩)),(6,.pointer (some ⟨(p1 2).N,0,none⟩)),(8,.bool false),(9,.bool true),(10,.bool true),(11,.bool false)]) (by kernel_rfl) (fun _ _=>by kernel_rfl) (fun _=>by kernel_rfl) (fun _=>by kernel_rfl) (fun p4=>?_) (fun p4 W4 T hF hK=>?_)
 ·iterate 2 refine ok_L (by kernel_rfl) (by kernel_rfl) (by kernel_rfl) ?_
  refine ok_c (fun W cx=>as_v (unhide H2 _ cx.fr)) (by kernel_rfl) ?_
  refine ok_v (by kernel_rfl) ?_
  exact ok_nil
 replace hS:=SymF.fb hS hF [0,1,2] [⟨(p1 0).N,#[.int .i64 E,.int .i64 F],33,true⟩,⟨(p1 1).N,#[.bool s,.slice a n c,.slice b k l],27,true⟩,⟨(p1 2).N,#[.bool t,.slice a' n' c',.slice b' k' l'],27,true⟩] (by kernel_rfl) (by kernel_rfl)
 replace hG:=hF.gx
 clear hF
 have z4:=hS.fr.size
 refine wp_seq ?_
 refine wp_symQ hS hG hK (fun p5=>[.v 29 (.bool true),.v 30 (.bool false),.v 31 (.bool false),.v 32 (.bool false),.v 33 (.bool true),.v 34 (.bool true),.v 35 (.bool true),.k (some 36),.k (some 37),.v 38 (.bool true)]) (fun p5=>[(3,.int .u8 (md:Int)),(4,.pointer (some ⟨(p1 0).N,0,none⟩)),(5,.pointer (some ⟨(p1 1).N,0,none⟩)),(6,.pointer (some ⟨(p1 2).N,0,none⟩)),(8,.bool false),(9,.bool true),(38,.bool true)]) (by kernel_rfl) (fun _ _=>by kernel_rfl) (fun _=>by kernel_rfl) (fun _=>by kernel_rfl) (fun p5=>?_) (fun p5 W5 T hF hK=>?_)
 ·iterate 7 refine ok_v (by kernel_rfl) ?_
  iterate 2 refine ok_K (by kernel_rfl) ?_
  refine ok_v (by kernel_rfl) ?_
  exact ok_nil
 replace hS:=SymF.fb hS hF [0,1,2] [⟨(p1 0).N,#[.int .i64 E,.int .i64 F],33,true⟩,⟨(p1 1).N,#[.bool s,.slice a n c,.slice b k l],27,true⟩,⟨(p1 2).N,#[.bool t,.slice a' n' c',.slice b' k' l'],27,true⟩] (by kernel_rfl) (by kernel_rfl)
 replace hG:=hF.gx
 clear hF
 have z5:=hS.fr.size
 refine wp_cond_true (hK.ev 38 (by kernel_rfl) _ (by kernel_rfl)) ?_
 refine wp_symQ hS hG hK (fun p6=>[.v 39 (.bool true),.v 8 (.bool true)]) (fun p6=>[(3,.int .u8 (md:Int)),(4,.pointer (some ⟨(p1 0).N,0,none⟩)),(5,.pointer (some ⟨(p1 1).N,0,none⟩)),(6,.pointer (some ⟨(p1 2).N,0,none⟩)),(8,.bool true),(9,.bool true),(38,.bool true)]) (by kernel_rfl) (fun _ _=>by kernel_rfl) (fun _=>by kernel_rfl) (fun _=>by kernel_rfl) (fun p6=>?_) (fun p6 W6 T hF hK=>?_)
 ·iterate 2 refine ok_v (by kernel_rfl) ?_
  exact ok_nil
 replace hS:=SymF.fb hS hF [0,1,2] [⟨(p1 0).N,#[.int .i64 E,.int .i64 F],33,true⟩,⟨(p1 1).N,#[.bool s,.slice a n c,.slice b k l],27,true⟩,⟨(p1 2).N,#[.bool t,.slice a' n' c',.slice b' k' l'],27,true⟩] (by kernel_rfl) (by kernel_rfl)
 replace hG:=hF.gx
 clear hF
 have z6:=hS.fr.size
 refine wp_ret ?_
 refine then_r ?_
 exact sym_end hS hK (.bool true) [] [] (by kernel_rfl) (by kernel_rfl) ⟨rfl,hS.fr⟩
theorem ord_mode (w:World) (E F:Int) (md:Nat) (s t:Bool) (a b a' b':Option Addr) (n c k l n' c' k' l':Nat) (hT:Tb w) (hN:Nb5 w) (hm:4 < md) (H1:Hid (∀ W:World,Below w.heap.size w W→Calls Tryz.prog 13 #[.agg #[.int .i64 E,.int .i64 F],.agg #[.bool s,.slice a n c,.slice b k l]] W fun e W'=>e = .returned (.bool true)∧Below W.heap.size W W')) (H2:Hid (∀ W:World,Below w.heap.size w W→Calls Tryz.prog 13 #[.agg #[.int .i64 E,.int .i64 F],.agg #[.bool t,.slice a' n' c',.slice b' k' l']] W fun e W'=>e = .returned (.bool true)∧Below W.heap.size W W')) :
  Calls Tryz.prog 5 #[.agg #[.int .i64 E,.int .i64 F],.agg #[.bool s,.slice a n c,.slice b k l],.agg #[.bool t,.slice a' n' c',.slice b' k' l'],.int .u8 (md:Int)] w fun en w'=>en = .returned (.bool true)∧Below w.heap.size w w':=by
 refine calls_sym Tryz.func5 rfl (by kernel_rfl) fun T hK=>?_
 replace hK:Kn T _ [(0,.agg #[.int .i64 E,.int .i64 F]),(1,.agg #[.bool s,.slice a n c,.slice b k l]),(2,.agg #[.bool t,.slice a' n' c',.slice b' k' l']),(3,.int .u8 (md:Int))]:=hK
 have hS:=Fb.begin w
 have hG:GsAt [] w:=trivial
 refine wp_symQ hS hG hK (fun p1=>[.n 4 #[.int .i64 E,.int .i64 F] 33,.n 5 #[.bool s,.slice a n c,.slice b k l] 27,.n 6 #[.bool t,.slice a' n' c',.slice b' k' l'] 27,.v 8 (.bool false)]) (fun p1=>[(3,.int .u8 (md:Int)),(4,.pointer (some ⟨(p1 0).N,0,none⟩)),(5,.pointer (some ⟨(p1 1).N,0,none⟩)),(6,.pointer (some ⟨(p1 2).N,0,none⟩)),(8,.bool false)]) (by kernel_rfl) (fun _ _=>by kernel_rfl) (fun _=>by kernel_rfl) (fun _=>by kernel_rfl) (fun p1=>?_) (fun p1 W1 T hF hK=>?_)
 ·iterate 3 refine ok_n (fun _=>by kernel_rfl) ?_
  refine ok_v (by kernel_rfl) ?_
  exact ok_nil
 replace hS:=SymF.fb hS hF [1000,1001,1002] [⟨(p1 0).N,#[.int .i64 E,.int .i64 F],33,true⟩,⟨(p1 1).N,#[.bool s,.slice a n c,.slice b k l],27,true⟩,⟨(p1 2).N,#[.bool t,.slice a' n' c',.slice b' k' l'],27,true⟩] (by kernel_rfl) (by kernel_rfl)
 replace hG:=hF.gx
 clear hF
 have z1:=hS.fr.size
 refine wp_symQ hS hG hK (fun p2=>[.c (some 22) (cV (.bool true)),.v 9 (.bool true)]) (fun p2=>[(3,.int .u8 (md:Int)),(4,.pointer (some ⟨(p1 0).N,0,none⟩)),(5,.pointer (some ⟨(p1 1).N,0,none⟩)),(6,.pointer (some ⟨(p1 2).N,0,none⟩)),(8,.bool false),(9,.bool true)]) (by kernel_rfl) (fun _ _=>by kernel_rfl) (fun _=>by kernel_rfl) (fun _=>by kernel_rfl) (fun p2=>?_) (fun p2 W2 T hF hK=>?_)
 ·refine ok_c (fun W cx=>as_v (salive_is _ (hT.kept cx.fr) (hN.kept cx.fr))) (by kernel_rfl) ?_
  refine ok_v (by kernel_rfl) ?_
  exact ok_nil
 replace hS:=SymF.fb hS hF [0,1,2] [⟨(p1 0).N,#[.int .i64 E,.int .i64 F],33,true⟩,⟨(p1 1).N,#[.bool s,.slice a n c,.slice b k l],27,true⟩,⟨(p1 2).N,#[.bool t,.slice a' n' c',.slice b' k' l'],27,true⟩] (by kernel_rfl) (by kernel_rfl)
 replace hG:=hF.gx
 clear hF
 have z2:=hS.fr.size
 refine wp_symQ hS hG hK (fun p3=>[.l 23 (.agg #[.int .i64 E,.int .i64 F]) 0 0,.l 24 (.agg #[.bool s,.slice a n c,.slice b k l]) 1 0,.c (some 25) (cV (.bool true)),.v 10 (.bool true)]) (fun p3=>[(3,.int .u8 (md:Int)),(4,.pointer (some ⟨(p1 0).N,0,none⟩)),(5,.pointer (some ⟨(p1 1).N,0,none⟩)),(6,.pointer (some ⟨(p1 2).N,0,none⟩)),(8,.bool false),(9,.bool true),(10,.bool true)]) (by kernel_rfl) (fun _ _=>by kernel_rfl) (fun _=>by kernel_rfl) (fun _=>by kernel_rfl) (fun p3=>?_) (fun p3 W3 T hF hK=>?_)
 ·iterate 2 refine ok_L (by kernel_rfl) (by kernel_rfl) (by kernel_rfl) ?_
  refine ok_c (fun W cx=>as_v (unhide H1 _ cx.fr)) (by kernel_rfl) ?_
  refine ok_v (by kernel_rfl) ?_
  exact ok_nil
 replace hS:=SymF.fb hS hF [0,1,2] [⟨(p1 0).N,#[.int .i64 E,.int .i64 F],33,true⟩,⟨(p1 1).N,#[.bool s,.slice a n c,.slice b k l],27,true⟩,⟨(p1 2).N,#[.bool t,.slice a' n' c',.slice b' k' l'],27,true⟩] (by kernel_rfl) (by kernel_rfl)
 replace hG:=hF.gx
 clear hF
 have z3:=hS.fr.size
 refine wp_symQ hS hG hK (fun p4=>[.l 26 (.agg #[.int .i64 E,.int .i64 F]) 0 0,.l 27 (.agg #[.bool t,.slice a' n' c',.slice b' k' l']) 2 0,.c (some 28) (cV (.bool true)),.v 11 (.bool true)]) (fun p4=>[(3,.int .u8 (md:Int)),(4,.pointer (some ⟨(p1 0).N,0,none⟩)),(5,.pointer (some ⟨(p1 1).N,0,none⟩)),(6,.pointer (some ⟨(p1 2).N,0,none⟩)),(8,.bool false),(9,.bool true),(10,.bool true),(11,.bool true)]) (by kernel_rfl) (fun _ _=>by kernel_rfl) (fun _=>by kernel_rfl) (fun _=>by kernel_rfl) (fun p4=>?_) (fun p4 W4 T hF hK=>?_)
 ·iterate 2 refine ok_L (by kernel_rfl) (by kernel_rfl) (by kernel_rfl) ?_
  refine ok_c (fun W cx=>as_v (unhide H2 _ cx.fr)) (by kernel_rfl) ?_
  refine ok_v (by kernel_rfl) ?_
  exact ok_nil
 replace hS:=SymF.fb hS hF [0,1,2] [⟨(p1 0).N,#[.int .i64 E,.int .i64 F],33,true⟩,⟨(p1 1).N,#[.bool s,.slice a n c,.slice b k l],27,true⟩,⟨(p1 2).N,#[.bool t,.slice a' n' c',.slice b' k' l'],27,true⟩] (by kernel_rfl) (by kernel_rfl)
 replace hG:=hF.gx
 clear hF
 have z4:=hS.fr.size
 refine wp_seq ?_
 refine wp_symQ hS hG hK (fun p5=>[.v 29 (.bool true),.v 30 (.bool false),.v 31 (.bool false),.v 32 (.bool true),.v 33 (.bool false),.v 34 (.bool false),.v 35 (.bool false),.v 36 (.int .u8 (md:Int)),.v 37 (.bool true),.v 38 (.bool true)]) (fun p5=>[(3,.int .u8 (md:Int)),(4,.pointer (some ⟨(p1 0).N,0,none⟩)),(5,.pointer (some ⟨(p1 1).N,0,none⟩)),(6,.pointer (some ⟨(p1 2).N,0,none⟩)),(8,.bool false),(9,.bool true),(38,.bool true)]) (by kernel_rfl) (fun _ _=>by kernel_rfl) (fun _=>by kernel_rfl) (fun _=>by kernel_rfl) (fun p5=>?_) (fun p5 W5 T hF hK=>?_)
 ·iterate 8 refine ok_v (by kernel_rfl) ?_
  refine ok_vb (decide_eq_true (show (md:Int) > 4 by omega)) (by kernel_rfl) ?_
  refine ok_v (by kernel_rfl) ?_
  exact ok_nil
 replace hS:=SymF.fb hS hF [0,1,2] [⟨(p1 0).N,#[.int .i64 E,.int .i64 F],33,true⟩,⟨(p1 1).N,#[.bool s,.slice a n c,.slice b k l],27,true⟩,⟨(p1 2).N,#[.bool t,.slice a' n' c',.slice b' k' l'],27,true⟩] (by kernel_rfl) (by kernel_rfl)
 replace hG:=hF.gx
 clear hF
 have z5:=hS.fr.size
 refine wp_cond_true (hK.ev 38 (by kernel_rfl) _ (by kernel_rfl)) ?_
 refine wp_symQ hS hG hK (fun p6=>[.v 39 (.bool true),.v 8 (.bool true)]) (fun p6=>[(3,.int .u8 (md:Int)),(4,.pointer (some ⟨(p1 0).N,0,none⟩)),(5,.pointer (some ⟨(p1 1).N,0,none⟩)),(6,.pointer (some ⟨(p1 2).N,0,none⟩)),(8,.bool true),(9,.bool true),(38,.bool true)]) (by kernel_rfl) (fun _ _=>by kernel_rfl) (fun _=>by kernel_rfl) (fun _=>by kernel_rfl) (fun p6=>?_) (fun p6 W6 T hF hK=>?_)
 ·iterate 2 refine ok_v (by kernel_rfl) ?_
  exact ok_nil
 replace hS:=SymF.fb hS hF [0,1,2] [⟨(p1 0).N,#[.int .i64 E,.int .i64 F],33,true⟩,⟨(p1 1).N,#[.bool s,.slice a n c,.slice b k l],27,true⟩,⟨(p1 2).N,#[.bool t,.slice a' n' c',.slice b' k' l'],27,true⟩] (by kernel_rfl) (by kernel_rfl)
 replace hG:=hF.gx
 clear hF
 have z6:=hS.fr.size
 refine wp_ret ?_
 refine then_r ?_
 exact sym_end hS hK (.bool true) [] [] (by kernel_rfl) (by kernel_rfl) ⟨rfl,hS.fr⟩
theorem ord_lt (w:World) (E F:Int) (md:Nat) (s t:Bool) (a b a' b':Option Addr) (n c k l n' c' k' l':Nat) (u v f1 f2:Nat) (i j:Int) (hT:Tb w) (hN:Nb5 w) (hm:md≤4) (ho:i≤j) (H1:Hid (∀ W:World,Below w.heap.size w W→Calls Tryz.prog 13 #[.agg #[.int .i64 E,.int .i64 F],.agg #[.bool s,.slice a n c,.slice b k l]] W fun e W'=>e = .returned (.bool true)∧Below W.heap.size W W')) (H2:Hid (∀ W:World,Below w.heap.size w W→Calls Tryz.prog 13 #[.agg #[.int .i64 E,.int .i64 F],.agg #[.bool t,.slice a' n' c',.slice b' k' l']] W fun e W'=>e = .returned (.bool true)∧Below W.heap.size W W')) (H3:Hid (∀ W:World,Below w.heap.size w W→Calls Tryz.prog 14 #[.agg #[.bool s,.slice a n c,.slice b k l],.agg #[.bool t,.slice a' n' c',.slice b' k' l']] W fun e W'=>e = .returned (.tuple #[.int .i64 (-1),.int .i64 0])∧Below W.heap.size W W')) (H4:Hid (∀ W:World,Below w.heap.size w W→Calls Tryz.prog 8 #[.agg #[.int .i64 E,.int .i64 F],.agg #[.bool s,.slice a n c,.slice b k l],.bool false,.int .u8 (md:Int)] W fun e W'=>e = .returned (.tuple #[.int .u64 (u:Int),.int .u8 (f1:Int),.int .i64 0])∧Below W.heap.size W W')) (H5:Hid (∀ W:World,Below w.heap.size w W→Calls Tryz.prog 8 #[.agg #[.int .i64 E,.int .i64 F],.agg #[.bool t,.slice a' n' c',.slice b' k' l'],.bool false,.int .u8 (md:Int)] W fun e W'=>e = .returned (.tuple #[.int .u64 (v:Int),.int .u8 (f2:Int),.int .i64 0])∧Below W.heap.size W W')) (H6:Hid (∀ W:World,Below w.heap.size w W→Calls Tryz.prog 15 #[.agg #[.int .i64 E,.int .i64 F],.int .u64 (u:Int)] W fun e W'=>e = .returned (.int .i64 i)∧Below W.heap.size W W')) (H7:Hid (∀ W:World,Below w.heap.size w W→Calls Tryz.prog 15 #[.agg #[.int .i64 E,.int .i64 F],.int .u64 (v:Int)] W fun e W'=>e = .returned (.int .i64 j)∧Below W.heap.size W W')) :
  Calls Tryz.prog 5 #[.agg #[.int .i64 E,.int .i64 F],.agg #[.bool s,.slice a n c,.slice b k l],.agg #[.bool t,.slice a' n' c',.slice b' k' l'],.int .u8 (md:Int)] w fun en w'=>en = .returned (.bool true)∧Below w.heap.size w w':=by
 refine calls_sym Tryz.func5 rfl (by kernel_rfl) fun T hK=>?_
 replace hK:Kn T _ [(0,.agg #[.int .i64 E,.int .i64 F]),(1,.agg #[.bool s,.slice a n c,.slice b k l]),(2,.agg #[.bool t,.slice a' n' c',.slice b' k' l']),(3,.int .u8 (md:Int))]:=hK
 have hS:=Fb.begin w
 have hG:GsAt [] w:=trivial
 refine wp_symQ hS hG hK (fun p1=>[.n 4 #[.int .i64 E,.int .i64 F] 33,.n 5 #[.bool s,.slice a n c,.slice b k l] 27,.n 6 #[.bool t,.slice a' n' c',.slice b' k' l'] 27,.v 8 (.bool false)]) (fun p1=>[(3,.int .u8 (md:Int)),(4,.pointer (some ⟨(p1 0).N,0,none⟩)),(5,.pointer (some ⟨(p1 1).N,0,none⟩)),(6,.pointer (some ⟨(p1 2).N,0,none⟩)),(8,.bool false)]) (by kernel_rfl) (fun _ _=>by kernel_rfl) (fun _=>by kernel_rfl) (fun _=>by kernel_rfl) (fun p1=>?_) (fun p1 W1 T hF hK=>?_)
 ·iterate 3 refine ok_n (fun _=>by kernel_rfl) ?_
  refine ok_v (by kernel_rfl) ?_
  exact ok_nil
 replace hS:=SymF.fb hS hF [1000,1001,1002] [⟨(p1 0).N,#[.int .i64 E,.int .i64 F],33,true⟩,⟨(p1 1).N,#[.bool s,.slice a n c,.slice b k l],27,true⟩,⟨(p1 2).N,#[.bool t,.slice a' n' c',.slice b' k' l'],27,true⟩] (by kernel_rfl) (by kernel_rfl)
 replace hG:=hF.gx
 clear hF
 have z1:=hS.fr.size
 refine wp_symQ hS hG hK (fun p2=>[.c (some 22) (cV (.bool true)),.v 9 (.bool true)]) (fun p2=>[(3,.int .u8 (md:Int)),(4,.pointer (some ⟨(p1 0).N,0,none⟩)),(5,.pointer (some ⟨(p1 1).N,0,none⟩)),(6,.pointer (some ⟨(p1 2).N,0,none⟩)),(8,.bool false),(9,.bool true)]) (by kernel_rfl) (fun _ _=>by kernel_rfl) (fun _=>by kernel_rfl) (fun _=>by kernel_rfl) (fun p2=>?_) (fun p2 W2 T hF hK=>?_)
 ·refine ok_c (fun W cx=>as_v (salive_is _ (hT.kept cx.fr) (hN.kept cx.fr))) (by kernel_rfl) ?_
  refine ok_v (by kernel_rfl) ?_
  exact ok_nil
 replace hS:=SymF.fb hS hF [0,1,2] [⟨(p1 0).N,#[.int .i64 E,.int .i64 F],33,true⟩,⟨(p1 1).N,#[.bool s,.slice a n c,.slice b k l],27,true⟩,⟨(p1 2).N,#[.bool t,.slice a' n' c',.slice b' k' l'],27,true⟩] (by kernel_rfl) (by kernel_rfl)
 replace hG:=hF.gx
 clear hF
 have z2:=hS.fr.size
 refine wp_symQ hS hG hK (fun p3=>[.l 23 (.agg #[.int .i64 E,.int .i64 F]) 0 0,.l 24 (.agg #[.bool s,.slice a n c,.slice b k l]) 1 0,.c (some 25) (cV (.bool true)),.v 10 (.bool true)]) (fun p3=>[(3,.int .u8 (md:Int)),(4,.pointer (some ⟨(p1 0).N,0,none⟩)),(5,.pointer (some ⟨(p1 1).N,0,none⟩)),(6,.pointer (some ⟨(p1 2).N,0,none⟩)),(8,.bool false),(9,.bool true),(10,.bool true)]) (by kernel_rfl) (fun _ _=>by kernel_rfl) (fun _=>by kernel_rfl) (fun _=>by kernel_rfl) (fun p3=>?_) (fun p3 W3 T hF hK=>?_)
 ·iterate 2 refine ok_L (by kernel_rfl) (by kernel_rfl) (by kernel_rfl) ?_
  refine ok_c (fun W cx=>as_v (unhide H1 _ cx.fr)) (by kernel_rfl) ?_
  refine ok_v (by kernel_rfl) ?_
  exact ok_nil
 replace hS:=SymF.fb hS hF [0,1,2] [⟨(p1 0).N,#[.int .i64 E,.int .i64 F],33,true⟩,⟨(p1 1).N,#[.bool s,.slice a n c,.slice b k l],27,true⟩,⟨(p1 2).N,#[.bool t,.slice a' n' c',.slice b' k' l'],27,true⟩] (by kernel_rfl) (by kernel_rfl)
 replace hG:=hF.gx
 clear hF
 have z3:=hS.fr.size
 refine wp_symQ hS hG hK (fun p4=>[.l 26 (.agg #[.int .i64 E,.int .i64 F]) 0 0,.l 27 (.agg #[.bool t,.slice a' n' c',.slice b' k' l']) 2 0,.c (some 28) (cV (.bool true)),.v 11 (.bool true)]) (fun p4=>[(3,.int .u8 (md:Int)),(4,.pointer (some ⟨(p1 0).N,0,none⟩)),(5,.pointer (some ⟨(p1 1).N,0,none⟩)),(6,.pointer (some ⟨(p1 2).N,0,none⟩)),(8,.bool false),(9,.bool true),(10,.bool true),(11,.bool true)]) (by kernel_rfl) (fun _ _=>by kernel_rfl) (fun _=>by kernel_rfl) (fun _=>by kernel_rfl) (fun p4=>?_) (fun p4 W4 T hF hK=>?_)
 ·iterate 2 refine ok_L (by kernel_rfl) (by kernel_rfl) (by kernel_rfl) ?_
  refine ok_c (fun W cx=>as_v (unhide H2 _ cx.fr)) (by kernel_rfl) ?_
  refine ok_v (by kernel_rfl) ?_
  exact ok_nil
 replace hS:=SymF.fb hS hF [0,1,2] [⟨(p1 0).N,#[.int .i64 E,.int .i64 F],33,true⟩,⟨(p1 1).N,#[.bool s,.slice a n c,.slice b k l],27,true⟩,⟨(p1 2).N,#[.bool t,.slice a' n' c',.slice b' k' l'],27,true⟩] (by kernel_rfl) (by kernel_rfl)
 replace hG:=hF.gx
 clear hF
 have z4:=hS.fr.size
 refine wp_seq ?_
 refine wp_symQ hS hG hK (fun p5=>[.v 29 (.bool true),.v 30 (.bool false),.v 31 (.bool false),.v 32 (.bool true),.v 33 (.bool false),.v 34 (.bool false),.v 35 (.bool false),.v 36 (.int .u8 (md:Int)),.v 37 (.bool false),.v 38 (.bool false)]) (fun p5=>[(3,.int .u8 (md:Int)),(4,.pointer (some ⟨(p1 0).N,0,none⟩)),(5,.pointer (some ⟨(p1 1).N,0,none⟩)),(6,.pointer (some ⟨(p1 2).N,0,none⟩)),(8,.bool false),(9,.bool true),(38,.bool false)]) (by kernel_rfl) (fun _ _=>by kernel_rfl) (fun _=>by kernel_rfl) (fun _=>by kernel_rfl) (fun p5=>?_) (fun p5 W5 T hF hK=>?_)
 ·iterate 8 refine ok_v (by kernel_rfl) ?_
  refine ok_vb (decide_eq_false (show ¬ (md:Int) > 4 by omega)) (by kernel_rfl) ?_
  refine ok_v (by kernel_rfl) ?_
  exact ok_nil
 replace hS:=SymF.fb hS hF [0,1,2] [⟨(p1 0).N,#[.int .i64 E,.int .i64 F],33,true⟩,⟨(p1 1).N,#[.bool s,.slice a n c,.slice b k l],27,true⟩,⟨(p1 2).N,#[.bool t,.slice a' n' c',.slice b' k' l'],27,true⟩] (by kernel_rfl) (by kernel_rfl)
 replace hG:=hF.gx
 clear hF
 have z5:=hS.fr.size
 refine wp_cond_false (hK.ev 38 (by kernel_rfl) _ (by kernel_rfl)) ?_
 refine wp_skip ?_
 refine then_n ?_
 refine wp_symQ hS hG hK (fun p6=>[.l 41 (.agg #[.bool s,.slice a n c,.slice b k l]) 1 0,.l 42 (.agg #[.bool t,.slice a' n' c',.slice b' k' l']) 2 0,.c (some 43) (cV (.tuple #[.int .i64 (-1),.int .i64 0])),.v 40 (.tuple #[.int .i64 (-1),.int .i64 0]),.v 44 (.int .i64 (-1)),.v 45 (.int .i64 0),.v 12 (.int .i64 (-1)),.v 13 (.int .i64 0)]) (fun p6=>[(3,.int .u8 (md:Int)),(4,.pointer (some ⟨(p1 0).N,0,none⟩)),(5,.pointer (some ⟨(p1 1).N,0,none⟩)),(6,.pointer (some ⟨(p1 2).N,0,none⟩)),(8,.bool false),(9,.bool true),(12,.int .i64 (-1)),(13,.int .i64 0),(38,.bool false)]) (by kernel_rfl) (fun _ _=>by kernel_rfl) (fun _=>by kernel_rfl) (fun _=>by kernel_rfl) (fun p6=>?_) (fun p6 W6 T hF hK=>?_)
 ·iterate 2 refine ok_L (by kernel_rfl) (by kernel_rfl) (by kernel_rfl) ?_
  refine ok_c (fun W cx=>as_v (unhide H3 _ cx.fr)) (by kernel_rfl) ?_
  iterate 5 refine ok_v (by kernel_rfl) ?_
  exact ok_nil
 replace hS:=SymF.fb hS hF [0,1,2] [⟨(p1 0).N,#[.int .i64 E,.int .i64 F],33,true⟩,⟨(p1 1).N,#[.bool s,.slice a n c,.slice b k l],27,true⟩,⟨(p1 2).N,#[.bool t,.slice a' n' c',.slice b' k' l'],27,true⟩] (by kernel_rfl) (by kernel_rfl)
 replace hG:=hF.gx
 clear hF
 have z6:=hS.fr.size
 refine wp_symQ hS hG hK (fun p7=>[.l 47 (.agg #[.int .i64 E,.int .i64 F]) 0 0,.l 48 (.agg #[.bool s,.slice a n c,.slice b k l]) 1 0,.v 49 (.int .u8 (md:Int)),.c (some 50) (cV (.tuple #[.int .u64 (u:Int),.int .u8 (f1:Int),.int .i64 0])),.v 46 (.tuple #[.int .u64 (u:Int),.int .u8 (f1:Int),.int .i64 0]),.v 51 (.int .u64 (u:Int)),.v 52 (.int .u8 (f1:Int)),.v 53 (.int .i64 0),.v 14 (.int .u64 (u:Int)),.v 15 (.int .u8 (f1:Int)),.v 16 (.int .i64 0)]) (fun p7=>[(3,.int .u8 (md:Int)),(4,.pointer (some ⟨(p1 0).N,0,none⟩)),(6,.pointer (some ⟨(p1 2).N,0,none⟩)),(8,.bool false),(9,.bool true),(12,.int .i64 (-1)),(13,.int .i64 0),(14,.int .u64 (u:Int)),(16,.int .i64 0),(38,.bool false)]) (by kernel_rfl) (fun _ _=>by kernel_rfl) (fun _=>by kernel_rfl) (fun _=>by kernel_rfl) (fun p7=>?_) (fun p7 W7 T hF hK=>?_)
 ·iterate 2 refine ok_L (by kernel_rfl) (by kernel_rfl) (by kernel_rfl) ?_
  refine ok_v (by kernel_rfl) ?_
  refine ok_c (fun W cx=>as_v (unhide H4 _ cx.fr)) (by kernel_rfl) ?_
  iterate 7 refine ok_v (by kernel_rfl) ?_
  exact ok_nil
 replace hS:=SymF.fb hS hF [0,2] [⟨(p1 0).N,#[.int .i64 E,.int .i64 F],33,true⟩,⟨(p1 2).N,#[.bool t,.slice a' n' c',.slice b' k' l'],27,true⟩] (by kernel_rfl) (by kernel_rfl)
 replace hG:=hF.gx
 clear hF
 have z7:=hS.fr.size
 refine wp_symQ hS hG hK (fun p8=>[.l 55 (.agg #[.int .i64 E,.int .i64 F]) 0 0,.l 56 (.agg #[.bool t,.slice a' n' c',.slice b' k' l']) 1 0,.v 57 (.int .u8 (md:Int)),.c (some 58) (cV (.tuple #[.int .u64 (v:Int),.int .u8 (f2:Int),.int .i64 0])),.v 54 (.tuple #[.int .u64 (v:Int),.int .u8 (f2:Int),.int .i64 0]),.v 59 (.int .u64 (v:Int)),.v 60 (.int .u8 (f2:Int)),.v 61 (.int .i64 0),.v 17 (.int .u64 (v:Int)),.v 18 (.int .u8 (f2:Int)),.v 19 (.int .i64 0)]) (fun p8=>[(4,.pointer (some ⟨(p1 0).N,0,none⟩)),(8,.bool false),(9,.bool true),(12,.int .i64 (-1)),(13,.int .i64 0),(14,.int .u64 (u:Int)),(16,.int .i64 0),(17,.int .u64 (v:Int)),(19,.int .i64 0),(38,.bool false)]) (by kernel_rfl) (fun _ _=>by kernel_rfl) (fun _=>by kernel_rfl) (fun _=>by kernel_rfl) (fun p8=>?_) (fun p8 W8 T hF hK=>?_)
 ·iterate 2 refine ok_L (by kernel_rfl) (by kernel_rfl) (by kernel_rfl) ?_
  refine ok_v (by kernel_rfl) ?_
  refine ok_c (fun W cx=>as_v (unhide H5 _ cx.fr)) (by kernel_rfl) ?_
  iterate 7 refine ok_v (by kernel_rfl) ?_
  exact ok_nil
 replace hS:=SymF.fb hS hF [0] [⟨(p1 0).N,#[.int .i64 E,.int .i64 F],33,true⟩] (by kernel_rfl) (by kernel_rfl)
 replace hG:=hF.gx
 clear hF
 have z8:=hS.fr.size
 refine wp_seq ?_
 refine wp_symQ hS hG hK (fun p9=>[.v 62 (.bool true),.v 63 (.bool false),.v 64 (.bool false),.v 65 (.int .i64 0),.v 66 (.bool false),.v 67 (.bool false),.v 68 (.bool false),.v 69 (.int .i64 0),.v 70 (.bool false),.v 71 (.bool false),.v 72 (.bool false),.v 73 (.int .i64 0),.v 74 (.bool false),.v 75 (.bool false)]) (fun p9=>[(4,.pointer (some ⟨(p1 0).N,0,none⟩)),(8,.bool false),(9,.bool true),(12,.int .i64 (-1)),(14,.int .u64 (u:Int)),(17,.int .u64 (v:Int)),(38,.bool false),(75,.bool false)]) (by kernel_rfl) (fun _ _=>by kernel_rfl) (fun _=>by kernel_rfl) (fun _=>by kernel_rfl) (fun p9=>?_) (fun p9 W9 T hF hK=>?_)
 ·iterate 14 refine ok_v (by kernel_rfl) ?_
  exact ok_nil
 replace hS:=SymF.fb hS hF [0] [⟨(p1 0).N,#[.int .i64 E,.int .i64 F],33,true⟩] (by kernel_rfl) (by kernel_rfl)
 replace hG:=hF.gx
 clear hF
 have z9:=hS.fr.size
 refine wp_cond_false (hK.ev 75 (by kernel_rfl) _ (by kernel_rfl)) ?_
 refine wp_skip ?_
 refine then_n ?_
 refine wp_symQ hS hG hK (fun p10=>[.l 76 (.agg #[.int .i64 E,.int .i64 F]) 0 0,.v 77 (.int .u64 (u:Int)),.c (some 78) (cV (.int .i64 i)),.v 20 (.int .i64 i)]) (fun p10=>[(4,.pointer (some ⟨(p1 0).N,0,none⟩)),(8,.bool false),(9,.bool true),(12,.int .i64 (-1)),(17,.int .u64 (v:Int)),(20,.int .i64 i),(38,.bool false),(75,.bool false)]) (by kernel_rfl) (fun _ _=>by kernel_rfl) (fun _=>by kernel_rfl) (fun _=>by kernel_rfl) (fun p10=>?_) (fun p10 W10 T hF hK=>?_)
 ·refine ok_L (by kernel_rfl) (by kernel_rfl) (by kernel_rfl) ?_
  refine ok_v (by kernel_rfl) ?_
  refine ok_c (fun W cx=>as_v (unhide H6 _ cx.fr)) (by kernel_rfl) ?_
  refine ok_v (by kernel_rfl) ?_
  exact ok_nil
 replace hS:=SymF.fb hS hF [0] [⟨(p1 0).N,#[.int .i64 E,.int .i64 F],33,true⟩] (by kernel_rfl) (by kernel_rfl)
 replace hG:=hF.gx
 clear hF
 have z10:=hS.fr.size
 refine wp_symQ hS hG hK (fun p11=>[.l 79 (.agg #[.int .i64 E,.int .i64 F]) 0 0,.v 80 (.int .u64 (v:Int)),.c (some 81) (cV (.int .i64 j)),.v 21 (.int .i64 j)]) (fun p11=>[(8,.bool false),(9,.bool true),(12,.int .i64 (-1)),(20,.int .i64 i),(21,.int .i64 j),(38,.bool false),(75,.bool false)]) (by kernel_rfl) (fun _ _=>by kernel_rfl) (fun _=>by kernel_rfl) (fun _=>by kernel_rfl) (fun p11=>?_) (fun p11 W11 T hF hK=>?_)
 ·refine ok_L (by kernel_rfl) (by kernel_rfl) (by kernel_rfl) ?_
  refine ok_v (by kernel_rfl) ?_
  refine ok_c (fun W cx=>as_v (unhide H7 _ cx.fr)) (by kernel_rfl) ?_
  refine ok_v (by kernel_rfl) ?_
  exact ok_nil
 replace hS:=SymF.fb hS hF [] [] (by kernel_rfl) (by kernel_rfl)
 replace hG:=hF.gx
 clear hF
 have z11:=hS.fr.size
 refine wp_symQ hS hG hK (fun p12=>[.v 82 (.int .i64 (-1)),.v 83 (.bool false),.v 84 (.bool false),.k (some 85),.k (some 86),.k (some 87),.v 88 (.bool false),.v 89 (.bool false),.v 90 (.int .i64 (-1)),.v 91 (.bool true),.v 92 (.bool true),.v 93 (.int .i64 i),.v 94 (.int .i64 j),.v 95 (.bool true),.v 96 (.bool true),.v 97 (.bool true),.v 98 (.bool true),.k (some 99),.k (some 100),.k (some 101),.k (some 102),.k (some 103),.k (some 104),.k (some 105),.v 106 (.bool true),.v 8 (.bool true)]) (fun p12=>[(8,.bool true),(9,.bool true),(38,.bool false),(75,.bool false)]) (by kernel_rfl) (fun _ _=>by kernel_rfl) (fun _=>by kernel_rfl) (fun _=>by kernel_rfl) (fun p12=>?_) (fun p12 W12 T hF hK=>?_)
 ·iterate 3 refine ok_v (by kernel_rfl) ?_
  iterate 3 refine ok_K (by kernel_rfl) ?_
  iterate 7 refine ok_v (by kernel_rfl) ?_
  refine ok_vb (decide_eq_true (show i≤j from ho)) (by kernel_rfl) ?_
  iterate 3 refine ok_v (by kernel_rfl) ?_
  iterate 7 refine ok_K (by kernel_rfl) ?_
  iterate 2 refine ok_v (by kernel_rfl) ?_
  exact ok_nil
 replace hS:=SymF.fb hS hF [] [] (by kernel_rfl) (by kernel_rfl)
 replace hG:=hF.gx
 clear hF
 have z12:=hS.fr.size
 refine wp_ret ?_
 exact sym_end hS hK (.bool true) [] [] (by kernel_rfl) (by kernel_rfl) ⟨rfl,hS.fr⟩
theorem ord_eq (w:World) (E F:Int) (md:Nat) (s t:Bool) (a b a' b':Option Addr) (n c k l n' c' k' l':Nat) (u v f1 f2:Nat) (i j:Int) (hT:Tb w) (hN:Nb5 w) (hm:md≤4) (ho:i = j) (H1:Hid (∀ W:World,Below w.heap.size w W→Calls Tryz.prog 13 #[.agg #[.int .i64 E,.int .i64 F],.agg #[.bool s,.slice a n c,.slice b k l]] W fun e W'=>e = .returned (.bool true)∧Below W.heap.size W W')) (H2:Hid (∀ W:World,Below w.heap.size w W→Calls Tryz.prog 13 #[.agg #[.int .i64 E,.int .i64 F],.agg #[.bool t,.slice a' n' c',.slice b' k' l']] W fun e W'=>e = .returned (.bool true)∧Below W.heap.size W W')) (H3:Hid (∀ W:World,Below w.heap.size w W→Calls Tryz.prog 14 #[.agg #[.bool s,.slice a n c,.slice b k l],.agg #[.bool t,.slice a' n' c',.slice b' k' l']] W fun e W'=>e = .returned (.tuple #[.int .i64 0,.int .i64 0])∧Below W.heap.size W W')) (H4:Hid (∀ W:World,Below w.heap.size w W→Calls Tryz.prog 8 #[.agg #[.int .i64 E,.int .i64 F],.agg #[.bool s,.slice a n c,.slice b k l],.bool false,.int .u8 (md:Int)] W fun e W'=>e = .returned (.tuple #[.int .u64 (u:Int),.int .u8 (f1:Int),.int .i64 0])∧Below W.heap.size W W')) (H5:Hid (∀ W:World,Below w.heap.size w W→Calls Tryz.prog 8 #[.agg #[.int .i64 E,.int .i64 F],.agg #[.bool t,.slice a' n' c',.slice b' k' l'],.bool false,.int .u8 (md:Int)] W fun e W'=>e = .returned (.tuple #[.int .u64 (v:Int),.int .u8 (f2:Int),.int .i64 0])∧Below W.heap.size W W')) (H6:Hid (∀ W:World,Below w.heap.size w W→Calls Tryz.prog 15 #[.agg #[.int .i64 E,.int .i64 F],.int .u64 (u:Int)] W fun e W'=>e = .returned (.int .i64 i)∧Below W.heap.size W W')) (H7:Hid (∀ W:World,Below w.heap.size w W→Calls Tryz.prog 15 #[.agg #[.int .i64 E,.int .i64 F],.int .u64 (v:Int)] W fun e W'=>e = .returned (.int .i64 j)∧Below W.heap.size W W')) :
  Calls Tryz.prog 5 #[.agg #[.int .i64 E,.int .i64 F],.agg #[.bool s,.slice a n c,.slice b k l],.agg #[.bool t,.slice a' n' c',.slice b' k' l'],.int .u8 (md:Int)] w fun en w'=>en = .returned (.bool true)∧Below w.heap.size w w':=by
 refine calls_sym Tryz.func5 rfl (by kernel_rfl) fun T hK=>?_
 replace hK:Kn T _ [(0,.agg #[.int .i64 E,.int .i64 F]),(1,.agg #[.bool s,.slice a n c,.slice b k l]),(2,.agg #[.bool t,.slice a' n' c',.slice b' k' l']),(3,.int .u8 (md:Int))]:=hK
 have hS:=Fb.begin w
 have hG:GsAt [] w:=trivial
 refine wp_symQ hS hG hK (fun p1=>[.n 4 #[.int .i64 E,.int .i64 F] 33,.n 5 #[.bool s,.slice a n c,.slice b k l] 27,.n 6 #[.bool t,.slice a' n' c',.slice b' k' l'] 27,.v 8 (.bool false)]) (fun p1=>[(3,.int .u8 (md:Int)),(4,.pointer (some ⟨(p1 0).N,0,none⟩)),(5,.pointer (some ⟨(p1 1).N,0,none⟩)),(6,.pointer (some ⟨(p1 2).N,0,none⟩)),(8,.bool false)]) (by kernel_rfl) (fun _ _=>by kernel_rfl) (fun _=>by kernel_rfl) (fun _=>by kernel_rfl) (fun p1=>?_) (fun p1 W1 T hF hK=>?_)
 ·iterate 3 refine ok_n (fun _=>by kernel_rfl) ?_
  refine ok_v (by kernel_rfl) ?_
  exact ok_nil
 replace hS:=SymF.fb hS hF [1000,1001,1002] [⟨(p1 0).N,#[.int .i64 E,.int .i64 F],33,true⟩,⟨(p1 1).N,#[.bool s,.slice a n c,.slice b k l],27,true⟩,⟨(p1 2).N,#[.bool t,.slice a' n' c',.slice b' k' l'],27,true⟩] (by kernel_rfl) (by kernel_rfl)
 replace hG:=hF.gx
 clear hF
 have z1:=hS.fr.size
 refine wp_symQ hS hG hK (fun p2=>[.c (some 22) (cV (.bool true)),.v 9 (.bool true)]) (fun p2=>[(3,.int .u8 (md:Int)),(4,.pointer (some ⟨(p1 0).N,0,none⟩)),(5,.pointer (some ⟨(p1 1).N,0,none⟩)),(6,.pointer (some ⟨(p1 2).N,0,none⟩)),(8,.bool false),(9,.bool true)]) (by kernel_rfl) (fun _ _=>by kernel_rfl) (fun _=>by kernel_rfl) (fun _=>by kernel_rfl) (fun p2=>?_) (fun p2 W2 T hF hK=>?_)
 ·refine ok_c (fun W cx=>as_v (salive_is _ (hT.kept cx.fr) (hN.kept cx.fr))) (by kernel_rfl) ?_
  refine ok_v (by kernel_rfl) ?_
  exact ok_nil
 replace hS:=SymF.fb hS hF [0,1,2] [⟨(p1 0).N,#[.int .i64 E,.int .i64 F],33,true⟩,⟨(p1 1).N,#[.bool s,.slice a n c,.slice b k l],27,true⟩,⟨(p1 2).N,#[.bool t,.slice a' n' c',.slice b' k' l'],27,true⟩] (by kernel_rfl) (by kernel_rfl)
 replace hG:=hF.gx
 clear hF
 have z2:=hS.fr.size
 refine wp_symQ hS hG hK (fun p3=>[.l 23 (.agg #[.int .i64 E,.int .i64 F]) 0 0,.l 24 (.agg #[.bool s,.slice a n c,.slice b k l]) 1 0,.c (some 25) (cV (.bool true)),.v 10 (.bool true)]) (fun p3=>[(3,.int .u8 (md:Int)),(4,.pointer (some ⟨(p1 0).N,0,none⟩)),(5,.pointer (some ⟨(p1 1).N,0,none⟩)),(6,.pointer (some ⟨(p1 2).N,0,none⟩)),(8,.bool false),(9,.bool true),(10,.bool true)]) (by kernel_rfl) (fun _ _=>by kernel_rfl) (fun _=>by kernel_rfl) (fun _=>by kernel_rfl) (fun p3=>?_) (fun p3 W3 T hF hK=>?_)
 ·iterate 2 refine ok_L (by kernel_rfl) (by kernel_rfl) (by kernel_rfl) ?_
  refine ok_c (fun W cx=>as_v (unhide H1 _ cx.fr)) (by kernel_rfl) ?_
  refine ok_v (by kernel_rfl) ?_
  exact ok_nil
 replace hS:=SymF.fb hS hF [0,1,2] [⟨(p1 0).N,#[.int .i64 E,.int .i64 F],33,true⟩,⟨(p1 1).N,#[.bool s,.slice a n c,.slice b k l],27,true⟩,⟨(p1 2).N,#[.bool t,.slice a' n' c',.slice b' k' l'],27,true⟩] (by kernel_rfl) (by kernel_rfl)
 replace hG:=hF.gx
 clear hF
 have z3:=hS.fr.size
 refine wp_symQ hS hG hK (fun p4=>[.l 26 (.agg #[.int .i64 E,.int .i64 F]) 0 0,.l 27 (.agg #[.bool t,.slice a' n' c',.slice b' k' l']) 2 0,.c (some 28) (cV (.bool true)),.v 11 (.bool true)]) (fun p4=>[(3,.int .u8 (md:Int)),(4,.pointer (some ⟨(p1 0).N,0,none⟩)),(5,.pointer (some ⟨(p1 1).N,0,none⟩)),(6,.pointer (some ⟨(p1 2).N,0,none⟩)),(8,.bool false),(9,.bool true),(10,.bool true),(11,.bool true)]) (by kernel_rfl) (fun _ _=>by kernel_rfl) (fun _=>by kernel_rfl) (fun _=>by kernel_rfl) (fun p4=>?_) (fun p4 W4 T hF hK=>?_)
 ·iterate 2 refine ok_L (by kernel_rfl) (by kernel_rfl) (by kernel_rfl) ?_
  refine ok_c (fun W cx=>as_v (unhide H2 _ cx.fr)) (by kernel_rfl) ?_
  refine ok_v (by kernel_rfl) ?_
  exact ok_nil
 replace hS:=SymF.fb hS hF [0,1,2] [⟨(p1 0).N,#[.int .i64 E,.int .i64 F],33,true⟩,⟨(p1 1).N,#[.bool s,.slice a n c,.slice b k l],27,true⟩,⟨(p1 2).N,#[.bool t,.slice a' n' c',.slice b' k' l'],27,true⟩] (by kernel_rfl) (by kernel_rfl)
 replace hG:=hF.gx
 clear hF
 have z4:=hS.fr.size
 refine wp_seq ?_
 refine wp_symQ hS hG hK (fun p5=>[.v 29 (.bool true),.v 30 (.bool false),.v 31 (.bool false),.v 32 (.bool true),.v 33 (.bool false),.v 34 (.bool false),.v 35 (.bool false),.v 36 (.int .u8 (md:Int)),.v 37 (.bool false),.v 38 (.bool false)]) (fun p5=>[(3,.int .u8 (md:Int)),(4,.pointer (some ⟨(p1 0).N,0,none⟩)),(5,.pointer (some ⟨(p1 1).N,0,none⟩)),(6,.pointer (some ⟨(p1 2).N,0,none⟩)),(8,.bool false),(9,.bool true),(38,.bool false)]) (by kernel_rfl) (fun _ _=>by kernel_rfl) (fun _=>by kernel_rfl) (fun _=>by kernel_rfl) (fun p5=>?_) (fun p5 W5 T hF hK=>?_)
 ·iterate 8 refine ok_v (by kernel_rfl) ?_
  refine ok_vb (decide_eq_false (show ¬ (md:Int) > 4 by omega)) (by kernel_rfl) ?_
  refine ok_v (by kernel_rfl) ?_
  exact ok_nil
 replace hS:=SymF.fb hS hF [0,1,2] [⟨(p1 0).N,#[.int .i64 E,.int .i64 F],33,true⟩,⟨(p1 1).N,#[.bool s,.slice a n c,.slice b k l],27,true⟩,⟨(p1 2).N,#[.bool t,.slice a' n' c',.slice b' k' l'],27,true⟩] (by kernel_rfl) (by kernel_rfl)
 replace hG:=hF.gx
 clear hF
 have z5:=hS.fr.size
 refine wp_cond_false (hK.ev 38 (by kernel_rfl) _ (by kernel_rfl)) ?_
 refine wp_skip ?_
 refine then_n ?_
 refine wp_symQ hS hG hK (fun p6=>[.l 41 (.agg #[.bool s,.slice a n c,.slice b k l]) 1 0,.l 42 (.agg #[.bool t,.slice a' n' c',.slice b' k' l']) 2 0,.c (some 43) (cV (.tuple #[.int .i64 0,.int .i64 0])),.v 40 (.tuple #[.int .i64 0,.int .i64 0]),.v 44 (.int .i64 0),.v 45 (.int .i64 0),.v 12 (.int .i64 0),.v 13 (.int .i64 0)]) (fun p6=>[(3,.int .u8 (md:Int)),(4,.pointer (some ⟨(p1 0).N,0,none⟩)),(5,.pointer (some ⟨(p1 1).N,0,none⟩)),(6,.pointer (some ⟨(p1 2).N,0,none⟩)),(8,.bool false),(9,.bool true),(12,.int .i64 0),(13,.int .i64 0),(38,.bool false)]) (by kernel_rfl) (fun _ _=>by kernel_rfl) (fun _=>by kernel_rfl) (fun _=>by kernel_rfl) (fun p6=>?_) (fun p6 W6 T hF hK=>?_)
 ·iterate 2 refine ok_L (by kernel_rfl) (by kernel_rfl) (by kernel_rfl) ?_
  refine ok_c (fun W cx=>as_v (unhide H3 _ cx.fr)) (by kernel_rfl) ?_
  iterate 5 refine ok_v (by kernel_rfl) ?_
  exact ok_nil
 replace hS:=SymF.fb hS hF [0,1,2] [⟨(p1 0).N,#[.int .i64 E,.int .i64 F],33,true⟩,⟨(p1 1).N,#[.bool s,.slice a n c,.slice b k l],27,true⟩,⟨(p1 2).N,#[.bool t,.slice a' n' c',.slice b' k' l'],27,true⟩] (by kernel_rfl) (by kernel_rfl)
 replace hG:=hF.gx
 clear hF
 have z6:=hS.fr.size
 refine wp_symQ hS hG hK (fun p7=>[.l 47 (.agg #[.int .i64 E,.int .i64 F]) 0 0,.l 48 (.agg #[.bool s,.slice a n c,.slice b k l]) 1 0,.v 49 (.int .u8 (md:Int)),.c (some 50) (cV (.tuple #[.int .u64 (u:Int),.int .u8 (f1:Int),.int .i64 0])),.v 46 (.tuple #[.int .u64 (u:Int),.int .u8 (f1:Int),.int .i64 0]),.v 51 (.int .u64 (u:Int)),.v 52 (.int .u8 (f1:Int)),.v 53 (.int .i64 0),.v 14 (.int .u64 (u:Int)),.v 15 (.int .u8 (f1:Int)),.v 16 (.int .i64 0)]) (fun p7=>[(3,.int .u8 (md:Int)),(4,.pointer (some ⟨(p1 0).N,0,none⟩)),(6,.pointer (some ⟨(p1 2).N,0,none⟩)),(8,.bool false),(9,.bool true),(12,.int .i64 0),(13,.int .i64 0),(14,.int .u64 (u:Int)),(16,.int .i64 0),(38,.bool false)]) (by kernel_rfl) (fun _ _=>by kernel_rfl) (fun _=>by kernel_rfl) (fun _=>by kernel_rfl) (fun p7=>?_) (fun p7 W7 T hF hK=>?_)
 ·iterate 2 refine ok_L (by kernel_rfl) (by kernel_rfl) (by kernel_rfl) ?_
  refine ok_v (by kernel_rfl) ?_
  refine ok_c (fun W cx=>as_v (unhide H4 _ cx.fr)) (by kernel_rfl) ?_
  iterate 7 refine ok_v (by kernel_rfl) ?_
  exact ok_nil
 replace hS:=SymF.fb hS hF [0,2] [⟨(p1 0).N,#[.int .i64 E,.int .i64 F],33,true⟩,⟨(p1 2).N,#[.bool t,.slice a' n' c',.slice b' k' l'],27,true⟩] (by kernel_rfl) (by kernel_rfl)
 replace hG:=hF.gx
 clear hF
 have z7:=hS.fr.size
 refine wp_symQ hS hG hK (fun p8=>[.l 55 (.agg #[.int .i64 E,.int .i64 F]) 0 0,.l 56 (.agg #[.bool t,.slice a' n' c',.slice b' k' l']) 1 0,.v 57 (.int .u8 (md:Int)),.c (some 58) (cV (.tuple #[.int .u64 (v:Int),.int .u8 (f2:Int),.int .i64 0])),.v 54 (.tuple #[.int .u64 (v:Int),.int .u8 (f2:Int),.int .i64 0]),.v 59 (.int .u64 (v:Int)),.v 60 (.int .u8 (f2:Int)),.v 61 (.int .i64 0),.v 17 (.int .u64 (v:Int)),.v 18 (.int .u8 (f2:Int)),.v 19 (.int .i64 0)]) (fun p8=>[(4,.pointer (some ⟨(p1 0).N,0,none⟩)),(8,.bool false),(9,.bool true),(12,.int .i64 0),(13,.int .i64 0),(14,.int .u64 (u:Int)),(16,.int .i64 0),(17,.int .u64 (v:Int)),(19,.int .i64 0),(38,.bool false)]) (by kernel_rfl) (fun _ _=>by kernel_rfl) (fun _=>by kernel_rfl) (fun _=>by kernel_rfl) (fun p8=>?_) (fun p8 W8 T hF hK=>?_)
 ·iterate 2 refine ok_L (by kernel_rfl) (by kernel_rfl) (by kernel_rfl) ?_
  refine ok_v (by kernel_rfl) ?_
  refine ok_c (fun W cx=>as_v (unhide H5 _ cx.fr)) (by kernel_rfl) ?_
  iterate 7 refine ok_v (by kernel_rfl) ?_
  exact ok_nil
 replace hS:=SymF.fb hS hF [0] [⟨(p1 0).N,#[.int .i64 E,.int .i64 F],33,true⟩] (by kernel_rfl) (by kernel_rfl)
 replace hG:=hF.gx
 clear hF
 have z8:=hS.fr.size
 refine wp_seq ?_
 refine wp_symQ hS hG hK (fun p9=>[.v 62 (.bool true),.v 63 (.bool false),.v 64 (.bool false),.v 65 (.int .i64 0),.v 66 (.bool false),.v 67 (.bool false),.v 68 (.bool false),.v 69 (.int .i64 0),.v 70 (.bool false),.v 71 (.bool false),.v 72 (.bool false),.v 73 (.int .i64 0),.v 74 (.bool false),.v 75 (.bool false)]) (fun p9=>[(4,.pointer (some ⟨(p1 0).N,0,none⟩)),(8,.bool false),(9,.bool true),(12,.int .i64 0),(14,.int .u64 (u:Int)),(17,.int .u64 (v:Int)),(38,.bool false),(75,.bool false)]) (by kernel_rfl) (fun _ _=>by kernel_rfl) (fun _=>by kernel_rfl) (fun _=>by kernel_rfl) (fun p9=>?_) (fun p9 W9 T hF hK=>?_)
 ·iterate 14 refine ok_v (by kernel_rfl) ?_
  exact ok_nil
 replace hS:=SymF.fb hS hF [0] [⟨(p1 0).N,#[.int .i64 E,.int .i64 F],33,true⟩] (by kernel_rfl) (by kernel_rfl)
 replace hG:=hF.gx
 clear hF
 have z9:=hS.fr.size
 refine wp_cond_false (hK.ev 75 (by kernel_rfl) _ (by kernel_rfl)) ?_
 refine wp_skip ?_
 refine then_n ?_
 refine wp_symQ hS hG hK (fun p10=>[.l 76 (.agg #[.int .i64 E,.int .i64 F]) 0 0,.v 77 (.int .u64 (u:Int)),.c (some 78) (cV (.int .i64 i)),.v 20 (.int .i64 i)]) (fun p10=>[(4,.pointer (some ⟨(p1 0).N,0,none⟩)),(8,.bool false),(9,.bool true),(12,.int .i64 0),(17,.int .u64 (v:Int)),(20,.int .i64 i),(38,.bool false),(75,.bool false)]) (by kernel_rfl) (fun _ _=>by kernel_rfl) (fun _=>by kernel_rfl) (fun _=>by kernel_rfl) (fun p10=>?_) (fun p10 W10 T hF hK=>?_)
 ·refine ok_L (by kernel_rfl) (by kernel_rfl) (by kernel_rfl) ?_
  refine ok_v (by kernel_rfl) ?_
  refine ok_c (fun W cx=>as_v (unhide H6 _ cx.fr)) (by kernel_rfl) ?_
  refine ok_v (by kernel_rfl) ?_
  exact ok_nil
 replace hS:=SymF.fb hS hF [0] [⟨(p1 0).N,#[.int .i64 E,.int .i64 F],33,true⟩] (by kernel_rfl) (by kernel_rfl)
 replace hG:=hF.gx
 clear hF
 have z10:=hS.fr.size
 refine wp_symQ hS hG hK (fun p11=>[.l 79 (.agg #[.int .i64 E,.int .i64 F]) 0 0,.v 80 (.int .u64 (v:Int)),.c (some 81) (cV (.int .i64 j)),.v 21 (.int .i64 j)]) (fun p11=>[(8,.bool false),(9,.bool true),(12,.int .i64 0),(20,.int .i64 i),(21,.int .i64 j),(38,.bool false),(75,.bool false)]) (by kernel_rfl) (fun _ _=>by kernel_rfl) (fun _=>by kernel_rfl) (fun _=>by kernel_rfl) (fun p11=>?_) (fun p11 W11 T hF hK=>?_)
 ·refine ok_L (by kernel_rfl) (by kernel_rfl) (by kernel_rfl) ?_
  refine ok_v (by kernel_rfl) ?_
  refine ok_c (fun W cx=>as_v (unhide H7 _ cx.fr)) (by kernel_rfl) ?_
  refine ok_v (by kernel_rfl) ?_
  exact ok_nil
 replace hS:=SymF.fb hS hF [] [] (by kernel_rfl) (by kernel_rfl)
 replace hG:=hF.gx
 clear hF
 have z11:=hS.fr.size
 refine wp_symQ hS hG hK (fun p12=>[.v 82 (.int .i64 0),.v 83 (.bool true),.v 84 (.bool true),.v 85 (.int .i64 i),.v 86 (.int .i64 j),.v 87 (.bool true),.v 88 (.bool true),.v 89 (.bool true),.k (some 90),.k (some 91),.k (some 92),.k (some 93),.k (some 94),.k (some 95),.k (some 96),.v 97 (.bool true),.v 98 (.bool true),.k (some 99),.k (some 100),.k (some 101),.k (some 102),.k (some 103),.k (some 104),.k (some 105),.v 106 (.bool true),.v 8 (.bool true)]) (fun p12=>[(8,.bool true),(9,.bool true),(38,.bool false),(75,.bool false)]) (by kernel_rfl) (fun _ _=>by kernel_rfl) (fun _=>by kernel_rfl) (fun _=>by kernel_rfl) (fun p12=>?_) (fun p12 W12 T hF hK=>?_)
 ·iterate 5 refine ok_v (by kernel_rfl) ?_
  refine ok_vb (beq_iff_eq.2 ho) (by kernel_rfl) ?_
  iterate 2 refine ok_v (by kernel_rfl) ?_
  iterate 7 refine ok_K (by kernel_rfl) ?_
  iterate 2 refine ok_v (by kernel_rfl) ?_
  iterate 7 refine ok_K (by kernel_rfl) ?_
  iterate 2 refine ok_v (by kernel_rfl) ?_
  exact ok_nil
 replace hS:=SymF.fb hS hF [] [] (by kernel_rfl) (by kernel_rfl)
 replace hG:=hF.gx
 clear hF
 have z12:=hS.fr.size
 refine wp_ret ?_
 exact sym_end hS hK (.bool true) [] [] (by kernel_rfl) (by kernel_rfl) ⟨rfl,hS.fr⟩
theorem ord_gt (w:World) (E F:Int) (md:Nat) (s t:Bool) (a b a' b':Option Addr) (n c k l n' c' k' l':Nat) (u v f1 f2:Nat) (i j:Int) (hT:Tb w) (hN:Nb5 w) (hm:md≤4) (ho:j≤i) (H1:Hid (∀ W:World,Below w.heap.size w W→Calls Tryz.prog 13 #[.agg #[.int .i64 E,.int .i64 F],.agg #[.bool s,.slice a n c,.slice b k l]] W fun e W'=>e = .returned (.bool true)∧Below W.heap.size W W')) (H2:Hid (∀ W:World,Below w.heap.size w W→Calls Tryz.prog 13 #[.agg #[.int .i64 E,.int .i64 F],.agg #[.bool t,.slice a' n' c',.slice b' k' l']] W fun e W'=>e = .returned (.bool true)∧Below W.heap.size W W')) (H3:Hid (∀ W:World,Below w.heap.size w W→Calls Tryz.prog 14 #[.agg #[.bool s,.slice a n c,.slice b k l],.agg #[.bool t,.slice a' n' c',.slice b' k' l']] W fun e W'=>e = .returned (.tuple #[.int .i64 1,.int .i64 0])∧Below W.heap.size W W')) (H4:Hid (∀ W:World,Below w.heap.size w W→Calls Tryz.prog 8 #[.agg #[.int .i64 E,.int .i64 F],.agg #[.bool s,.slice a n c,.slice b k l],.bool false,.int .u8 (md:Int)] W fun e W'=>e = .returned (.tuple #[.int .u64 (u:Int),.int .u8 (f1:Int),.int .i64 0])∧Below W.heap.size W W')) (H5:Hid (∀ W:World,Below w.heap.size w W→Calls Tryz.prog 8 #[.agg #[.int .i64 E,.int .i64 F],.agg #[.bool t,.slice a' n' c',.slice b' k' l'],.bool false,.int .u8 (md:Int)] W fun e W'=>e = .returned (.tuple #[.int .u64 (v:Int),.int .u8 (f2:Int),.int .i64 0])∧Below W.heap.size W W')) (H6:Hid (∀ W:World,Below w.heap.size w W→Calls Tryz.prog 15 #[.agg #[.int .i64 E,.int .i64 F],.int .u64 (u:Int)] W fun e W'=>e = .returned (.int .i64 i)∧Below W.heap.size W W')) (H7:Hid (∀ W:World,Below w.heap.size w W→Calls Tryz.prog 15 #[.agg #[.int .i64 E,.int .i64 F],.int .u64 (v:Int)] W fun e W'=>e = .returned (.int .i64 j)∧Below W.heap.size W W')) :
  Calls Tryz.prog 5 #[.agg #[.int .i64 E,.int .i64 F],.agg #[.bool s,.slice a n c,.slice b k l],.agg #[.bool t,.slice a' n' c',.slice b' k' l'],.int .u8 (md:Int)] w fun en w'=>en = .returned (.bool true)∧Below w.heap.size w w':=by
 refine calls_sym Tryz.func5 rfl (by kernel_rfl) fun T hK=>?_
 replace hK:Kn T _ [(0,.agg #[.int .i64 E,.int .i64 F]),(1,.agg #[.bool s,.slice a n c,.slice b k l]),(2,.agg #[.bool t,.slice a' n' c',.slice b' k' l']),(3,.int .u8 (md:Int))]:=hK
 have hS:=Fb.begin w
 have hG:GsAt [] w:=trivial
 refine wp_symQ hS hG hK (fun p1=>[.n 4 #[.int .i64 E,.int .i64 F] 33,.n 5 #[.bool s,.slice a n c,.slice b k l] 27,.n 6 #[.bool t,.slice a' n' c',.slice b' k' l'] 27,.v 8 (.bool false)]) (fun p1=>[(3,.int .u8 (md:Int)),(4,.pointer (some ⟨(p1 0).N,0,none⟩)),(5,.pointer (some ⟨(p1 1).N,0,none⟩)),(6,.pointer (some ⟨(p1 2).N,0,none⟩)),(8,.bool false)]) (by kernel_rfl) (fun _ _=>by kernel_rfl) (fun _=>by kernel_rfl) (fun _=>by kernel_rfl) (fun p1=>?_) (fun p1 W1 T hF hK=>?_)
 ·iterate 3 refine ok_n (fun _=>by kernel_rfl) ?_
  refine ok_v (by kernel_rfl) ?_
  exact ok_nil
 replace hS:=SymF.fb hS hF [1000,1001,1002] [⟨(p1 0).N,#[.int .i64 E,.int .i64 F],33,true⟩,⟨(p1 1).N,#[.bool s,.slice a n c,.slice b k l],27,true⟩,⟨(p1 2).N,#[.bool t,.slice a' n' c',.slice b' k' l'],27,true⟩] (by kernel_rfl) (by kernel_rfl)
 replace hG:=hF.gx
 clear hF
 have z1:=hS.fr.size
 refine wp_symQ hS hG hK (fun p2=>[.c (some 22) (cV (.bool true)),.v 9 (.bool true)]) (fun p2=>[(3,.int .u8 (md:Int)),(4,.pointer (some ⟨(p1 0).N,0,none⟩)),(5,.pointer (some ⟨(p1 1).N,0,none⟩)),(6,.pointer (some ⟨(p1 2).N,0,none⟩)),(8,.bool false),(9,.bool true)]) (by kernel_rfl) (fun _ _=>by kernel_rfl) (fun _=>by kernel_rfl) (fun _=>by kernel_rfl) (fun p2=>?_) (fun p2 W2 T hF hK=>?_)
 ·refine ok_c (fun W cx=>as_v (salive_is _ (hT.kept cx.fr) (hN.kept cx.fr))) (by kernel_rfl) ?_
  refine ok_v (by kernel_rfl) ?_
  exact ok_nil
 replace hS:=SymF.fb hS hF [0,1,2] [⟨(p1 0).N,#[.int .i64 E,.int .i64 F],33,true⟩,⟨(p1 1).N,#[.bool s,.slice a n c,.slice b k l],27,true⟩,⟨(p1 2).N,#[.bool t,.slice a' n' c',.slice b' k' l'],27,true⟩] (by kernel_rfl) (by kernel_rfl)
 replace hG:=hF.gx
 clear hF
 have z2:=hS.fr.size
 refine wp_symQ hS hG hK (fun p3=>[.l 23 (.agg #[.int .i64 E,.int .i64 F]) 0 0,.l 24 (.agg #[.bool s,.slice a n c,.slice b k l]) 1 0,.c (some 25) (cV (.bool true)),.v 10 (.bool true)]) (fun p3=>[(3,.int .u8 (md:Int)),(4,.pointer (some ⟨(p1 0).N,0,none⟩)),(5,.pointer (some ⟨(p1 1).N,0,none⟩)),(6,.pointer (some ⟨(p1 2).N,0,none⟩)),(8,.bool false),(9,.bool true),(10,.bool true)]) (by kernel_rfl) (fun _ _=>by kernel_rfl) (fun _=>by kernel_rfl) (fun _=>by kernel_rfl) (fun p3=>?_) (fun p3 W3 T hF hK=>?_)
 ·iterate 2 refine ok_L (by kernel_rfl) (by kernel_rfl) (by kernel_rfl) ?_
  refine ok_c (fun W cx=>as_v (unhide H1 _ cx.fr)) (by kernel_rfl) ?_
  refine ok_v (by kernel_rfl) ?_
  exact ok_nil
 replace hS:=SymF.fb hS hF [0,1,2] [⟨(p1 0).N,#[.int .i64 E,.int .i64 F],33,true⟩,⟨(p1 1).N,#[.bool s,.slice a n c,.slice b k l],27,true⟩,⟨(p1 2).N,#[.bool t,.slice a' n' c',.slice b' k' l'],27,true⟩] (by kernel_rfl) (by kernel_rfl)
 replace hG:=hF.gx
 clear hF
 have z3:=hS.fr.size
 refine wp_symQ hS hG hK (fun p4=>[.l 26 (.agg #[.int .i64 E,.int .i64 F]) 0 0,.l 27 (.agg #[.bool t,.slice a' n' c',.slice b' k' l']) 2 0,.c (some 28) (cV (.bool true)),.v 11 (.bool true)]) (fun p4=>[(3,.int .u8 (md:Int)),(4,.pointer (some ⟨(p1 0).N,0,none⟩)),(5,.pointer (some ⟨(p1 1).N,0,none⟩)),(6,.pointer (some ⟨(p1 2).N,0,none⟩)),(8,.bool false),(9,.bool true),(10,.bool true),(11,.bool true)]) (by kernel_rfl) (fun _ _=>by kernel_rfl) (fun _=>by kernel_rfl) (fun _=>by kernel_rfl) (fun p4=>?_) (fun p4 W4 T hF hK=>?_)
 ·iterate 2 refine ok_L (by kernel_rfl) (by kernel_rfl) (by kernel_rfl) ?_
  refine ok_c (fun W cx=>as_v (unhide H2 _ cx.fr)) (by kernel_rfl) ?_
  refine ok_v (by kernel_rfl) ?_
  exact ok_nil
 replace hS:=SymF.fb hS hF [0,1,2] [⟨(p1 0).N,#[.int .i64 E,.int .i64 F],33,true⟩,⟨(p1 1).N,#[.bool s,.slice a n c,.slice b k l],27,true⟩,⟨(p1 2).N,#[.bool t,.slice a' n' c',.slice b' k' l'],27,true⟩] (by kernel_rfl) (by kernel_rfl)
 replace hG:=hF.gx
 clear hF
 have z4:=hS.fr.size
 refine wp_seq ?_
 refine wp_symQ hS hG hK (fun p5=>[.v 29 (.bool true),.v 30 (.bool false),.v 31 (.bool false),.v 32 (.bool true),.v 33 (.bool false),.v 34 (.bool false),.v 35 (.bool false),.v 36 (.int .u8 (md:Int)),.v 37 (.bool false),.v 38 (.bool false)]) (fun p5=>[(3,.int .u8 (md:Int)),(4,.pointer (some ⟨(p1 0).N,0,none⟩)),(5,.pointer (some ⟨(p1 1).N,0,none⟩)),(6,.pointer (some ⟨(p1 2).N,0,none⟩)),(8,.bool false),(9,.bool true),(38,.bool false)]) (by kernel_rfl) (fun _ _=>by kernel_rfl) (fun _=>by kernel_rfl) (fun _=>by kernel_rfl) (fun p5=>?_) (fun p5 W5 T hF hK=>?_)
 ·iterate 8 refine ok_v (by kernel_rfl) ?_
  refine ok_vb (decide_eq_false (show ¬ (md:Int) > 4 by omega)) (by kernel_rfl) ?_
  refine ok_v (by kernel_rfl) ?_
  exact ok_nil
 replace hS:=SymF.fb hS hF [0,1,2] [⟨(p1 0).N,#[.int .i64 E,.int .i64 F],33,true⟩,⟨(p1 1).N,#[.bool s,.slice a n c,.slice b k l],27,true⟩,⟨(p1 2).N,#[.bool t,.slice a' n' c',.slice b' k' l'],27,true⟩] (by kernel_rfl) (by kernel_rfl)
 replace hG:=hF.gx
 clear hF
 have z5:=hS.fr.size
 refine wp_cond_false (hK.ev 38 (by kernel_rfl) _ (by kernel_rfl)) ?_
 refine wp_skip ?_
 refine then_n ?_
 refine wp_symQ hS hG hK (fun p6=>[.l 41 (.agg #[.bool s,.slice a n c,.slice b k l]) 1 0,.l 42 (.agg #[.bool t,.slice a' n' c',.slice b' k' l']) 2 0,.c (some 43) (cV (.tuple #[.int .i64 1,.int .i64 0])),.v 40 (.tuple #[.int .i64 1,.int .i64 0]),.v 44 (.int .i64 1),.v 45 (.int .i64 0),.v 12 (.int .i64 1),.v 13 (.int .i64 0)]) (fun p6=>[(3,.int .u8 (md:Int)),(4,.pointer (some ⟨(p1 0).N,0,none⟩)),(5,.pointer (some ⟨(p1 1).N,0,none⟩)),(6,.pointer (some ⟨(p1 2).N,0,none⟩)),(8,.bool false),(9,.bool true),(12,.int .i64 1),(13,.int .i64 0),(38,.bool false)]) (by kernel_rfl) (fun _ _=>by kernel_rfl) (fun _=>by kernel_rfl) (fun _=>by kernel_rfl) (fun p6=>?_) (fun p6 W6 T hF hK=>?_)
 ·iterate 2 refine ok_L (by kernel_rfl) (by kernel_rfl) (by kernel_rfl) ?_
  refine ok_c (fun W cx=>as_v (unhide H3 _ cx.fr)) (by kernel_rfl) ?_
  iterate 5 refine ok_v (by kernel_rfl) ?_
  exact ok_nil
 replace hS:=SymF.fb hS hF [0,1,2] [⟨(p1 0).N,#[.int .i64 E,.int .i64 F],33,true⟩,⟨(p1 1).N,#[.bool s,.slice a n c,.slice b k l],27,true⟩,⟨(p1 2).N,#[.bool t,.slice a' n' c',.slice b' k' l'],27,true⟩] (by kernel_rfl) (by kernel_rfl)
 replace hG:=hF.gx
 clear hF
 have z6:=hS.fr.size
 refine wp_symQ hS hG hK (fun p7=>[.l 47 (.agg #[.int .i64 E,.int .i64 F]) 0 0,.l 48 (.agg #[.bool s,.slice a n c,.slice b k l]) 1 0,.v 49 (.int .u8 (md:Int)),.c (some 50) (cV (.tuple #[.int .u64 (u:Int),.int .u8 (f1:Int),.int .i64 0])),.v 46 (.tuple #[.int .u64 (u:Int),.int .u8 (f1:Int),.int .i64 0]),.v 51 (.int .u64 (u:Int)),.v 52 (.int .u8 (f1:Int)),.v 53 (.int .i64 0),.v 14 (.int .u64 (u:Int)),.v 15 (.int .u8 (f1:Int)),.v 16 (.int .i64 0)]) (fun p7=>[(3,.int .u8 (md:Int)),(4,.pointer (some ⟨(p1 0).N,0,none⟩)),(6,.pointer (some ⟨(p1 2).N,0,none⟩)),(8,.bool false),(9,.bool true),(12,.int .i64 1),(13,.int .i64 0),(14,.int .u64 (u:Int)),(16,.int .i64 0),(38,.bool false)]) (by kernel_rfl) (fun _ _=>by kernel_rfl) (fun _=>by kernel_rfl) (fun _=>by kernel_rfl) (fun p7=>?_) (fun p7 W7 T hF hK=>?_)
 ·iterate 2 refine ok_L (by kernel_rfl) (by kernel_rfl) (by kernel_rfl) ?_
  refine ok_v (by kernel_rfl) ?_
  refine ok_c (fun W cx=>as_v (unhide H4 _ cx.fr)) (by kernel_rfl) ?_
  iterate 7 refine ok_v (by kernel_rfl) ?_
  exact ok_nil
 replace hS:=SymF.fb hS hF [0,2] [⟨(p1 0).N,#[.int .i64 E,.int .i64 F],33,true⟩,⟨(p1 2).N,#[.bool t,.slice a' n' c',.slice b' k' l'],27,true⟩] (by kernel_rfl) (by kernel_rfl)
 replace hG:=hF.gx
 clear hF
 have z7:=hS.fr.size
 refine wp_symQ hS hG hK (fun p8=>[.l 55 (.agg #[.int .i64 E,.int .i64 F]) 0 0,.l 56 (.agg #[.bool t,.slice a' n' c',.slice b' k' l']) 1 0,.v 57 (.int .u8 (md:Int)),.c (some 58) (cV (.tuple #[.int .u64 (v:Int),.int .u8 (f2:Int),.int .i64 0])),.v 54 (.tuple #[.int .u64 (v:Int),.int .u8 (f2:Int),.int .i64 0]),.v 59 (.int .u64 (v:Int)),.v 60 (.int .u8 (f2:Int)),.v 61 (.int .i64 0),.v 17 (.int .u64 (v:Int)),.v 18 (.int .u8 (f2:Int)),.v 19 (.int .i64 0)]) (fun p8=>[(4,.pointer (some ⟨(p1 0).N,0,none⟩)),(8,.bool false),(9,.bool true),(12,.int .i64 1),(13,.int .i64 0),(14,.int .u64 (u:Int)),(16,.int .i64 0),(17,.int .u64 (v:Int)),(19,.int .i64 0),(38,.bool false)]) (by kernel_rfl) (fun _ _=>by kernel_rfl) (fun _=>by kernel_rfl) (fun _=>by kernel_rfl) (fun p8=>?_) (fun p8 W8 T hF hK=>?_)
 ·iterate 2 refine ok_L (by kernel_rfl) (by kernel_rfl) (by kernel_rfl) ?_
  refine ok_v (by kernel_rfl) ?_
  refine ok_c (fun W cx=>as_v (unhide H5 _ cx.fr)) (by kernel_rfl) ?_
  iterate 7 refine ok_v (by kernel_rfl) ?_
  exact ok_nil
 replace hS:=SymF.fb hS hF [0] [⟨(p1 0).N,#[.int .i64 E,.int .i64 F],33,true⟩] (by kernel_rfl) (by kernel_rfl)
 replace hG:=hF.gx
 clear hF
 have z8:=hS.fr.size
 refine wp_seq ?_
 refine wp_symQ hS hG hK (fun p9=>[.v 62 (.bool true),.v 63 (.bool false),.v 64 (.bool false),.v 65 (.int .i64 0),.v 66 (.bool false),.v 67 (.bool false),.v 68 (.bool false),.v 69 (.int .i64 0),.v 70 (.bool false),.v 71 (.bool false),.v 72 (.bool false),.v 73 (.int .i64 0),.v 74 (.bool false),.v 75 (.bool false)]) (fun p9=>[(4,.pointer (some ⟨(p1 0).N,0,none⟩)),(8,.bool false),(9,.bool true),(12,.int .i64 1),(14,.int .u64 (u:Int)),(17,.int .u64 (v:Int)),(38,.bool false),(75,.bool false)]) (by kernel_rfl) (fun _ _=>by kernel_rfl) (fun _=>by kernel_rfl) (fun _=>by kernel_rfl) (fun p9=>?_) (fun p9 W9 T hF hK=>?_)
 ·iterate 14 refine ok_v (by kernel_rfl) ?_
  exact ok_nil
 replace hS:=SymF.fb hS hF [0] [⟨(p1 0).N,#[.int .i64 E,.int .i64 F],33,true⟩] (by kernel_rfl) (by kernel_rfl)
 replace hG:=hF.gx
 clear hF
 have z9:=hS.fr.size
 refine wp_cond_false (hK.ev 75 (by kernel_rfl) _ (by kernel_rfl)) ?_
 refine wp_skip ?_
 refine then_n ?_
 refine wp_symQ hS hG hK (fun p10=>[.l 76 (.agg #[.int .i64 E,.int .i64 F]) 0 0,.v 77 (.int .u64 (u:Int)),.c (some 78) (cV (.int .i64 i)),.v 20 (.int .i64 i)]) (fun p10=>[(4,.pointer (some ⟨(p1 0).N,0,none⟩)),(8,.bool false),(9,.bool true),(12,.int .i64 1),(17,.int .u64 (v:Int)),(20,.int .i64 i),(38,.bool false),(75,.bool false)]) (by kernel_rfl) (fun _ _=>by kernel_rfl) (fun _=>by kernel_rfl) (fun _=>by kernel_rfl) (fun p10=>?_) (fun p10 W10 T hF hK=>?_)
 ·refine ok_L (by kernel_rfl) (by kernel_rfl) (by kernel_rfl) ?_
  refine ok_v (by kernel_rfl) ?_
  refine ok_c (fun W cx=>as_v (unhide H6 _ cx.fr)) (by kernel_rfl) ?_
  refine ok_v (by kernel_rfl) ?_
  exact ok_nil
 replace hS:=SymF.fb hS hF [0] [⟨(p1 0).N,#[.int .i64 E,.int .i64 F],33,true⟩] (by kernel_rfl) (by kernel_rfl)
 replace hG:=hF.gx
 clear hF
 have z10:=hS.fr.size
 refine wp_symQ hS hG hK (fun p11=>[.l 79 (.agg #[.int .i64 E,.int .i64 F]) 0 0,.v 80 (.int .u64 (v:Int)),.c (some 81) (cV (.int .i64 j)),.v 21 (.int .i64 j)]) (fun p11=>[(8,.bool false),(9,.bool true),(12,.int .i64 1),(20,.int .i64 i),(21,.int .i64 j),(38,.bool false),(75,.bool false)]) (by kernel_rfl) (fun _ _=>by kernel_rfl) (fun _=>by kernel_rfl) (fun _=>by kernel_rfl) (fun p11=>?_) (fun p11 W11 T hF hK=>?_)
 ·refine ok_L (by kernel_rfl) (by kernel_rfl) (by kernel_rfl) ?_
  refine ok_v (by kernel_rfl) ?_
  refine ok_c (fun W cx=>as_v (unhide H7 _ cx.fr)) (by kernel_rfl) ?_
  refine ok_v (by kernel_rfl) ?_
  exact ok_nil
 replace hS:=SymF.fb hS hF [] [] (by kernel_rfl) (by kernel_rfl)
 replace hG:=hF.gx
 clear hF
 have z11:=hS.fr.size
 refine wp_symQ hS hG hK (fun p12=>[.v 82 (.int .i64 1),.v 83 (.bool false),.v 84 (.bool false),.k (some 85),.k (some 86),.k (some 87),.v 88 (.bool false),.v 89 (.bool false),.v 90 (.int .i64 1),.v 91 (.bool false),.v 92 (.bool false),.k (some 93),.k (some 94),.k (some 95),.v 96 (.bool false),.v 97 (.bool false),.v 98 (.bool false),.v 99 (.int .i64 1),.v 100 (.bool true),.v 101 (.bool true),.v 102 (.int .i64 i),.v 103 (.int .i64 j),.v 104 (.bool true),.v 105 (.bool true),.v 106 (.bool true),.v 8 (.bool true)]) (fun p12=>[(8,.bool true),(9,.bool true),(38,.bool false),(75,.bool false)]) (by kernel_rfl) (fun _ _=>by kernel_rfl) (fun _=>by kernel_rfl) (fun _=>by kernel_rfl) (fun p12=>?_) (fun p12 W12 T hF hK=>?_)
 ·iterate 3 refine ok_v (by kernel_rfl) ?_
  iterate 3 refine ok_K (by kernel_rfl) ?_
  iterate 5 refine ok_v (by kernel_rfl) ?_
  iterate 3 refine ok_K (by kernel_rfl) ?_
  iterate 8 refine ok_v (by kernel_rfl) ?_
  refine ok_vb (decide_eq_true (show i ≥ j from ho)) (by kernel_rfl) ?_
  iterate 3 refine ok_v (by kernel_rfl) ?_
  exact ok_nil
 replace hS:=SymF.fb hS hF [] [] (by kernel_rfl) (by kernel_rfl)
 replace hG:=hF.gx
 clear hF
 have z12:=hS.fr.size
 refine wp_ret ?_
 exact sym_end hS hK (.bool true) [] [] (by kernel_rfl) (by kernel_rfl) ⟨rfl,hS.fr⟩
end Go.Proofs.YtcclpafdkgnmiaaGreatDoor
