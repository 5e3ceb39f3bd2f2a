/- Of what RoundWorthRow stands on: SFrac SRatC SOrdA SScaleC SAlive SWorW SWorLaw. -/
import Derived.Test.YtbbhlfngjoongaaGreatDoorPbf
import Derived.Test.YtbbhlfngjoongaaGreatDoorPbh
import Derived.Test.YtbbhlfngjoongaaGreatDoorPbg
import Derived.Test.YtbbhlfngjoongaaGreatDoorPao
import Derived.Test.YtbbhlfngjoongaaGreatDoorPbc
import Derived.Test.YtbbhlfngjoongaaGreatDoorPat
import Derived.Test.YtbbhlfngjoongaaGreatDoorPbe
namespace Go.Proofs.YtbbhlfngjoongaaGreatDoor
open Go.RowKit
set_option maxHeartbeats 2000000
set_option maxRecDepth 20000
theorem num_new (w:World) (n:Nat) (h0:0 < n) (h1:n < 4294967296):Num (w.alloc (.cells #[.int .u32 (n:Int)] 39)) (some ⟨w.heap.size,0,none⟩) 1 n:=by
 refine ⟨[n],rfl,Or.inr ⟨w.heap.size,0,rfl,fun j hj=>?_⟩,fun x hx=>?_,?_,?_,by omega⟩
 ·have hj0:j = 0:=by simp at hj; omega
  subst hj0
  rw [cell_of_row _ w.heap.size 0 _ _ _ (heap_alloc_new w _)]; rfl
 ·simp at hx; omega
 ·simp [Pl.Norm]; omega
 ·simp [Pl.val]
theorem frac_is (s:Bool) (n d:Nat) (hn:0 < n) (hn2:n < 4294967296) (hd:0 < d) (hd2:d < 4294967296) (hg:Nat.gcd n d = 1) (w:World) :
  Calls Tryz.prog 14 #[.bool s,.int .u32 (n:Int),.int .u32 (d:Int)] w fun en w'=>(∃ a k c a' k' c',en = .returned (.tuple #[.agg #[.bool s,.slice a k c,.slice a' k' c'],.int .i64 0])∧Mine w' w.heap.size a k c n∧Mine w' w.heap.size a' k' c' d)∧Below w.heap.size w w':=by
 have q1:=num_new (w.alloc (.cells #[.bool false,.slice none 0 0,.slice none 0 0] 35)) n hn hn2
 have q2:=num_new ((w.alloc (.cells #[.bool false,.slice none 0 0,.slice none 0 0] 35)).alloc (.cells #[.int .u32 (n:Int)] 39)) d hd hd2
 replace q1:=q1.kept (gr_alloc _ (.cells #[.int .u32 (d:Int)] 39))
 have hS:=(Fs.one w #[.bool false,.slice none 0 0,.slice none 0 0] 35).kept (gr_alloc _ (.cells #[.int .u32 (n:Int)] 39))
 replace hS:=hS.kept (gr_alloc _ (.cells #[.int .u32 (d:Int)] 39))
 simp only [World.size_alloc] at q1 q2
 have hb0:=hS.fr
 have HS:=hide hS
 have H1:=hide q1
 have H2:=hide q2
 clear q1 q2 hS
 go_enter Tryz.func14,Tryz.ntmps14
 go_wp2_with fail
 refine (make_any s _ _ 1 1 1 1 n d _ (unhide H1) (unhide H2) hd).mono ?_
 rintro en w1 ⟨hr,hb1⟩
 rw [hg,Nat.div_one,Nat.div_one] at hr
 rcases hr with ⟨a,k,c,a',k',c',rfl,g1,g2⟩|⟨-,ho⟩
 ·have hS:=(unhide HS).kept hb1
  have hdn:decide (n = 0) = false:=by simp; omega
  rw [hdn]
  have hz:=hb1.size
  have hz0:=hb0.size
  obtain ⟨⟨z0,z1,z2,-⟩,-⟩:=hS.cells
  have Q_:=hS.frozen (b:=w.heap.size) (cs:=#[.bool false,.slice none 0 0,.slice none 0 0]) (t:=35) (by simp)
  have f0:=Q_ 0
  have f1:=Q_ 1
  have f2:=Q_ 2
  clear Q_
  have G1:=hide g1
  have G2:=hide g2
  have HF:=hide hS
  clear g1 g2 hdn hS hb0 hb1 hz hz0 hn hn2 hd hd2
  simp only [RatV,Bool.and_true,Bool.not_false]
  go_wp2
  have hS:=unhide HF
  have e1:=hS.put (b:=w.heap.size) (cs:=#[.bool false,.slice none 0 0,.slice none 0 0]) (t:=35) (by simp) (by omega) 0 (.bool s) [⟨w.heap.size,#[.bool s,.slice none 0 0,.slice none 0 0],35⟩] (by simp)
  have e2:=e1.put (b:=w.heap.size) (cs:=#[.bool s,.slice none 0 0,.slice none 0 0]) (t:=35) (by simp) (by omega) 1 (.slice a k c) [⟨w.heap.size,#[.bool s,.slice a k c,.slice none 0 0],35⟩] (by simp)
  have e3:=e2.put (b:=w.heap.size) (cs:=#[.bool s,.slice a k c,.slice none 0 0]) (t:=35) (by simp) (by omega) 2 (.slice a' k' c') [⟨w.heap.size,#[.bool s,.slice a k c,.slice a' k' c'],35⟩] (by simp)
  have b0:=hS.bx ⟨w.heap.size,#[.bool false,.slice none 0 0,.slice none 0 0],35⟩ (by simp)
  have b1:=e1.bx ⟨w.heap.size,#[.bool s,.slice none 0 0,.slice none 0 0],35⟩ (by simp)
  have b2:=e2.bx ⟨w.heap.size,#[.bool s,.slice a k c,.slice none 0 0],35⟩ (by simp)
  obtain ⟨⟨y0,y1,y2,-⟩,-⟩:=e3.cells
  have ho:w.heap.size≤(((w.alloc (.cells #[.bool false,.slice none 0 0,.slice none 0 0] 35)).alloc (.cells #[.int .u32 (n:Int)] 39)).alloc (.cells #[.int .u32 (d:Int)] 39)).heap.size:=by simp; omega
  exact bodyPost_ret (v:=.tuple #[.agg #[.bool s,.slice a k c,.slice a' k' c'],.int .i64 0]) (by simp [results,Tryz.results14,go_sem,y0,y1,y2]) rfl ⟨⟨a,k,c,a',k',c',rfl,((((unhide G1).put b0 (by simp) 0 _).put b1 (by simp) 1 _).put b2 (by simp) 2 _).mono ho,((((unhide G2).put b0 (by simp) 0 _).put b1 (by simp) 1 _).put b2 (by simp) 2 _).mono ho⟩,e3.fr⟩
 ·have e32:(2:Nat) ^ 32 = 4294967296:=by decide
  rcases ho with ho|ho
  ·exact absurd ho (no_over (K:=32) (by omega) (by omega))
  ·exact absurd ho (no_over (K:=32) (by omega) (by omega))
theorem rchk_ok (s:Bool) (a b:Option Addr) (n c k l m d:Nat) (h0:0 < m) (hd:0 < d) (hg:Nat.gcd m d = 1) (W:World) (h1:Num W a n m) (h2:Num W b k d) :
  Calls Tryz.prog 24 #[.agg #[.bool s,.slice a n c,.slice b k l]] W fun e W'=>e = .returned (.int .i64 0)∧Below W.heap.size W W':=by
 have hk:0 < k:=by have:=h2.zero; omega
 have hn:0 < n:=by have:=h1.zero; omega
 cases s
 ·exact rk_ok_f a n c m b k l d W hk h1 h2 hg
 ·exact rk_ok_t a n c m b k l d W hk hn h1 h2 hg
theorem rat_c (E F B S I md:Nat) (s ng:Bool) (m d z q K bt fl:Nat) (X:Int) (hfo:Fo E F) (hS:S = 2 ^ (F+E)) (hI:I = (2 ^ E - 1) * 2 ^ F) (hB:B = 2 ^ (E - 1) - 1) (hm:md≤4) (h0:0 < m) (hd:0 < d) (hg:Nat.gcd m d = 1) (bm:blen m≤64) (bd:blen d≤64) (hz:sAns m d = 2 ^ z * (2 * q+1)) (hz2:z≤300) (hX:sExp m d+(z:Int) = X) (hK:blen (2 * q+1) = K) (hbt:bitsR S I md s (rowR B F md s (2 * q+1) K X) = bt) (hfl:flagR B F I md s (2 * q+1) K X = fl)
  (a b:Option Addr) (n c k l:Nat) (w:World) (hT:Tb w) (h1:Num w a n m) (h2:Num w b k d) :
  Calls Tryz.prog 9 #[.agg #[.int .i64 (E:Int),.int .i64 (F:Int)],.agg #[.bool s,.slice a n c,.slice b k l],.bool ng,.int .u8 (md:Int)] w fun e w'=>e = .returned (.tuple #[.int .u64 (bt:Int),.int .u8 (fl:Int),.int .i64 0])∧Below w.heap.size w w':=by
 have:=sratio_is (E:=E) (F:=F) (S:=S) (I:=I) (B:=B) (md:=md) ⟨hfo,hS,hI⟩ hB hm ng s a b n c k l m d w hT h1 h2 (by omega) hd (by omega) (by omega) (by omega) (by omega) (hide fun W q1 q2=>rchk_ok s a b n c k l m d h0 hd hg W q1 q2) z (2 * q+1) K X ⟨q,hz⟩ (by omega) (by rw [hz,Nat.mul_div_cancel_left _ (Nat.pow_pos (by omega))]) hX (by rw [← hK]; exact bl_blen _)
 rw [hbt,hfl] at this
 exact this
theorem Mine.limb {w:World} {B:Nat} {a:Option Addr} {n c m:Nat} (h:Mine w B a n c m) (h0:0 < m) (h1:m < 4294967296):n = 1∧∃ b,a = some ⟨b,0,none⟩∧w.cell? ⟨b,0,none⟩ = some (.int .u32 (m:Int)):=by
 have hn:n = 1:=by
  obtain ⟨xs,hl,-,hw,hN,hv,-⟩:=h
  match xs,hl,hw,hN,hv with
  | [],hl,_,_,hv=>simp [Pl.val] at hv; omega
  | [x],hl,_,_,_=>simpa using hl.symm
  | x :: y :: r,hl,hw,hN,hv=>
   exfalso
   have h3:Pl.val (y :: r)≠0:=by
    intro h4
    have:=Pl.norm_lower (xs:=x :: y :: r) hN (by simp)
    simp only [Pl.val] at this hv h4
    have h5:(4294967296:Nat) ^ 1≤4294967296 ^ ((x :: y :: r).length - 1):=Nat.pow_le_pow_right (by omega) (by simp)
    omega
   simp only [Pl.val] at hv h3
   omega
 refine ⟨hn,?_⟩
 subst hn
 obtain ⟨xs,hl,ho,hw,hN,hv,-⟩:=h
 match xs,hl,ho,hv with
 | [x],_,ho,hv=>
  simp [Pl.val] at hv
  subst hv
  rcases ho with ⟨e,-⟩|⟨g,cap,cur,e,hg,hh,-,-,-,hc⟩
  ·cases e
  ·injection e with e1 e2 e3
   refine ⟨g,e1,?_⟩
   rw [cell_of_row w g 0 _ _ _ hh]
   have:=hc 0 (by simp)
   simpa using this
def capR (I md:Nat) (s:Bool) (r:Nat):Nat:=if r < I then r else if fth md s false 1 then I else I - 1
theorem capR_mono {I md:Nat} {s:Bool} {r r':Nat} (h:r≤r'):capR I md s r≤capR I md s r':=by
 unfold capR
 by_cases h1:r < I
 ·rw [if_pos h1]
  by_cases h2:r' < I
  ·rw [if_pos h2]; exact h
  ·rw [if_neg h2]; split <;> omega
 ·have h2:¬ r' < I:=by omega
  exact Nat.le_of_eq (by rw [if_neg h1,if_neg h2])
def Kf (B F I md:Nat) (s:Bool) (p d r:Nat):Prop:=(p = 0∧r = 0)∨(0 < p∧∃ (j n b z M K:Nat) (X:Int),Std p d j n b z M K X∧r = capR I md s (rowR B F md s M K X))
theorem Kf.mono {B F I md:Nat} {s:Bool} {p d r p' d' r':Nat} (h:Kf B F I md s p d r) (h':Kf B F I md s p' d' r') (hd':0 < d') (hF:F≤52) (hle:p * d'≤p' * d):r≤r':=by
 rcases h with ⟨_,rfl⟩|⟨h0,j,n,b,z,M,K,X,hs,rfl⟩
 ·exact Nat.zero_le _
 ·rcases h' with ⟨h1,_⟩|⟨h1,j',n',b',z',M',K',X',hs',rfl⟩
  ·rw [h1,Nat.zero_mul] at hle
   have:=Nat.mul_pos h0 hd'
   omega
  ·exact capR_mono (rowR_mono hs hs' hF hle)
theorem rfr_ok (s:Bool) (a b:Option Addr) (n c k l p d:Nat) (hd:0 < d) (hg:Nat.gcd p d = 1) (hs:s = true→0 < p) (W:World) (h1:Num W a n p) (h2:Num W b k d) :
  Calls Tryz.prog 24 #[.agg #[.bool s,.slice a n c,.slice b k l]] W fun e W'=>e = .returned (.int .i64 0)∧Below W.heap.size W W':=by
 have hk:0 < k:=by have:=h2.zero; omega
 cases s
 ·exact rk_ok_f a n c p b k l d W hk h1 h2 hg
 ·exact rk_ok_t a n c p b k l d W hk (by have:=h1.zero; have:=hs rfl; omega) h1 h2 hg
theorem rounded_z {E F S I md:Nat} (h:Fm E F S I) (ng:Bool) (W:World) (B9:Nat) (A:Option Addr) (N C:Nat) (g:Mine W B9 A N C 0) :
  Calls Tryz.prog 33 #[.agg #[.int .i64 E,.int .i64 F],.agg #[.bool false,.slice A N C,.int .i64 0],.bool ng,.int .u8 (md:Int)] W fun e w'=>e = .returned (.tuple #[.int .u64 ((if ng then S else 0:Nat):Int),.int .u8 ((0:Nat):Int),.int .i64 0])∧Below W.heap.size W w':=by
 obtain rfl:=g.num.zero.2 rfl
 exact rounded_nought E F _ md ng h.fo A C W ⟨pow_pos2 _,pow_pos2 _,by rw [← h.hS]; cases ng <;> simp⟩
theorem stand_z {W:World} {fn:FuncId} {av:Array Value} (h:Calls Tryz.prog fn av W fun en w'=>en = .returned (.tuple #[.agg #[.bool false,.slice none 0 0,.int .i64 0],.int .i64 0])∧Below W.heap.size W w') :
  Calls Tryz.prog fn av W fun en w'=>(∃ A N C,en = .returned (.tuple #[.agg #[.bool false,.slice A N C,.int .i64 0],.int .i64 0])∧Mine w' W.heap.size A N C 0)∧Below W.heap.size W w':=
 h.mono fun e W' ⟨h1,h2⟩=>⟨⟨none,0,0,h1,⟨[],rfl,Or.inl ⟨rfl,rfl⟩,Pl.wf_nil,Pl.norm_nil,rfl,by omega⟩⟩,h2⟩
theorem zero_r {E F S I md:Nat} (h:Fm E F S I) (hm:md≤4) (ng:Bool) (a b:Option Addr) (n c k l:Nat) (W:World) (hT:Tb W) (h1:Num W a n 0) (h2:Num W b k 1) :
  Calls Tryz.prog 9 #[.agg #[.int .i64 E,.int .i64 F],.agg #[.bool false,.slice a n c,.slice b k l],.bool ng,.int .u8 (md:Int)] W fun e w'=>e = .returned (.tuple #[.int .u64 ((if ng then S else 0:Nat):Int),.int .u8 ((0:Nat):Int),.int .i64 0])∧Below W.heap.size W w':=by
 refine sratio_w W E F md false ng a b n c k l 0 1 _ 0 h1 h2 (hide fun W' hb q1 q2=>?_)
 exact sscaled_is W' E F md false ng a b n c k l 0 1 0 0 _ 0 h.fo hm (hT.kept hb) q1 q2 (hide fun W x1 x2=>rfr_ok false a b n c k l 0 1 (by omega) rfl (by simp) W x1 x2) (hide fun W _ r1 _=>stand_z (sstand_0 W false a b n c k l r1)) (hide fun W B9 A N C g=>rounded_z h ng W B9 A N C g)
theorem zero_p {E F S I md:Nat} (h:Fm E F S I) (hm:md≤4) (ng:Bool) (a b:Option Addr) (n c k l:Nat) (W:World) (hT:Tb W) (h1:Num W a n 0) (h2:Num W b k 1) :
  Calls Tryz.prog 11 #[.agg #[.int .i64 E,.int .i64 F],.agg #[.bool false,.slice a n c,.slice b k l],.int .i64 1,.bool ng,.int .u8 (md:Int)] W fun e w'=>e = .returned (.tuple #[.int .u64 ((if ng then S else 0:Nat):Int),.int .u8 ((0:Nat):Int),.int .i64 0])∧Below W.heap.size W w':=
 sscaled_is_p W E F md false ng a b n c k l 0 1 0 0 _ 0 h.fo hm hT h1 h2 (hide fun W x1 x2=>rfr_ok false a b n c k l 0 1 (by omega) rfl (by simp) W x1 x2) (hide fun W _ r1 _=>stand_z (sstand_0p W false a b n c k l r1)) (hide fun W B9 A N C g=>rounded_z h ng W B9 A N C g)
abbrev RV (S I B F md:Nat) (s:Bool) (M K:Nat) (X:Int):Value:=.tuple #[.int .u64 (bitsR S I md s (rowR B F md s M K X):Int),.int .u8 (flagR B F I md s M K X:Int),.int .i64 0]
theorem sti_r {E F S I B:Nat} (h:Fm E F S I) (hB:B = 2 ^ (E - 1) - 1) (s:Bool) (p d:Nat) (h0:0 < p) (hd:0 < d) (hg:Nat.gcd p d = 1) (bp:blen p≤2200) (bd:blen d≤2200) :
  ∃ (D i j n b z M K:Nat) (X:Int),Sti p d D i j n b z M K X∧∀ (md:Nat) (_:md≤4) (ng:Bool) (W:World) (a b:Option Addr) (n c k l:Nat),Tb W→Num W a n p→Num W b k d→Calls Tryz.prog 9 #[.agg #[.int .i64 (E:Int),.int .i64 (F:Int)],.agg #[.bool s,.slice a n c,.slice b k l],.bool ng,.int .u8 (md:Int)] W fun e w'=>e = .returned (RV S I B F md s M K X)∧Below W.heap.size W w':=by
 obtain ⟨K,hK⟩:∃ K,K = 6800:=⟨_,rfl⟩
 have hl:sLift p d≤2200:=by unfold sLift; omega
 have hmo:sMore p d≤2265:=by unfold sMore; omega
 have hall:sAll p d < 2 ^ K:=by
  have e:sAll p d = p * 2 ^ (sLift p d+sMore p d):=by unfold sAll sOne; rw [Nat.pow_add,Nat.mul_assoc]
  rw [e]
  refine Nat.lt_of_lt_of_le (Nat.mul_lt_mul_of_pos_right (bl_blen p).1 (Nat.pow_pos (by omega))) ?_
  rw [← Nat.pow_add]
  exact Nat.pow_le_pow_right (by omega) (by omega)
 have hpos:0 < sAll p d:=Nat.mul_pos (Nat.mul_pos h0 (Nat.pow_pos (by omega))) (Nat.pow_pos (by omega))
 have hdm:=Nat.div_add_mod (sAll p d) d
 have hdl:sAll p d / d≤sAll p d:=Nat.div_le_self _ _
 have a1:0 < sAns p d:=by
  unfold sAns
  split
  ·next e=>
   rw [e] at hdm
   rcases Nat.eq_zero_or_pos (sAll p d / d) with q|q
   ·rw [q] at hdm; omega
   ·omega
  ·omega
 have a2:sAns p d < 2 ^ (K+1):=by
  rw [Nat.pow_succ]
  unfold sAns
  split <;> omega
 obtain ⟨z,⟨q,hq⟩,hz⟩:=tz_ex a1 a2
 refine ⟨_,_,_,_,_,_,_,_,_,(std_of h0 hd hq (bl_blen _)).sti,fun md hm ng W a b n c k l hT h1 h2=>?_⟩
 exact sratio_is h hB hm ng s a b n c k l p d W hT h1 h2 (by omega) hd (by omega) (by omega) (by omega) (by omega) (hide fun W x1 x2=>rfr_ok s a b n c k l p d hd hg (fun _=>h0) W x1 x2) z (2 * q+1) (blen (2 * q+1)) _ ⟨q,hq⟩ (by omega) (by rw [hq,Nat.mul_div_cancel_left _ (Nat.pow_pos (by omega))]) rfl (bl_blen _)
theorem sti_p {E F S I B:Nat} (h:Fm E F S I) (hB:B = 2 ^ (E - 1) - 1) (s:Bool) (p d:Nat) (h0:0 < p) (hd:0 < d) (hg:Nat.gcd p d = 1) (bp:blen p≤2200) (bd:blen d≤2200) :
  ∃ (D i j n b z M K:Nat) (X:Int),Sti (p * 10) d D i j n b z M K X∧∀ (md:Nat) (_:md≤4) (ng:Bool) (W:World) (a b:Option Addr) (n c k l:Nat),Tb W→Num W a n p→Num W b k d→Calls Tryz.prog 11 #[.agg #[.int .i64 (E:Int),.int .i64 (F:Int)],.agg #[.bool s,.slice a n c,.slice b k l],.int .i64 1,.bool ng,.int .u8 (md:Int)] W fun e w'=>e = .returned (RV S I B F md s M K X)∧Below W.heap.size W w':=by
 have b5:blen 5 = 3:=by decide
 have b1:blen 1 = 1:=by decide
 obtain ⟨z,q,hq,hz⟩:=gAns_tz (u:=5) (v:=1) h0 (by omega) hd (by omega) (by omega) (by omega) (by omega) (by omega) (by omega)
 exact ⟨_,_,_,_,_,_,_,_,_,gsti_p h0 hd hq (bl_blen _),fun md hm ng W a b n c k l hT h1 h2=>sscaled_p h hB hm ng s a b n c k l p d W hT h1 h2 h0 hd (by omega) (by omega) (by omega) (by omega) (hide fun W x1 x2=>rfr_ok s a b n c k l p d hd hg (fun _=>h0) W x1 x2) z q _ hq (by omega) (bl_blen _)⟩
def rqm (s:Bool) (p d:Nat) (hd:0 < d) (hg:Nat.gcd p d = 1):Rat:=⟨Rm.sgn s p,d,by omega,by rw [Nat.Coprime,Rm.sgn_abs]; exact hg⟩
theorem q_rqm {s:Bool} {p d:Nat} {hd:0 < d} {hg:Nat.gcd p d = 1} (hs:s = true→0 < p):Rm.Q (rqm s p d hd hg) s p d:=⟨rfl,rfl,fun e=>by
 cases s
 ·rfl
 ·have:=hs rfl; omega⟩
theorem sgn_one (s:Bool) (p q:Nat):Rm.sgn s p * Rm.sgn false q = Rm.sgn s (p * q):=by
 cases s <;> simp [Rm.sgn,Int.neg_mul]
theorem mk_facts {z:Rat} {s:Bool} {P D:Nat} (hz:z = mkRat (Rm.sgn s P) D) (hP:0 < P) (hD:0 < D):decide (z.num < 0) = s∧z.num.natAbs * D = P * z.den∧0 < z.num.natAbs∧0 < z.den∧z.num.natAbs≤P∧z.den≤D∧Nat.gcd z.num.natAbs z.den = 1:=by
 have q:=Rm.Q.made (s:=s) (n:=P) (d:=D) (by omega)
 rw [← hz] at q
 have hG:0 < Nat.gcd P D:=Nat.gcd_pos_of_pos_left _ hP
 obtain ⟨P',hP'⟩:=Nat.gcd_dvd_left P D
 obtain ⟨D',hD'⟩:=Nat.gcd_dvd_right P D
 have e1:P / Nat.gcd P D = P':=Nat.div_eq_of_eq_mul_right hG hP'
 have e2:D / Nat.gcd P D = D':=Nat.div_eq_of_eq_mul_right hG hD'
 rw [e1,e2] at q
 generalize Nat.gcd P D = g at *
 have p1:0 < P':=Nat.pos_of_ne_zero fun e=>by rw [e,Nat.mul_zero] at hP'; omega
 have d1:0 < D':=Nat.pos_of_ne_zero fun e=>by rw [e,Nat.mul_zero] at hD'; omega
 rw [q.neg,q.abs,q.den]
 refine ⟨by rw [decide_eq_false (by omega)]; simp,?_,p1,d1,?_,?_,q.co⟩
 ·rw [hP',hD']; ac_rfl
 ·rw [hP']; exact Nat.le_mul_of_pos_left _ hG
 ·rw [hD']; exact Nat.le_mul_of_pos_left _ hG
theorem blen_mono {m n:Nat} (h:m≤n):blen m≤blen n:=(bl_blen m).le_of (Nat.lt_of_le_of_lt h (bl_blen n).1)
theorem blen_ten (p:Nat):blen (p * 10)≤blen p+4:=by
 refine (bl_blen _).le_of ?_
 have:=(bl_blen p).1
 rw [Nat.pow_add]; omega
theorem rok_in {w:World} {base K:Nat} {en:Ending} {z:Rat} (h:ROk w base en z) (h1:blen z.num.natAbs≤K) (h2:blen z.den≤K) (hK:K≤524288):∃ A N C A' N' C',en = .returned (.tuple #[.agg #[.bool (decide (z.num < 0)),.slice A N C,.slice A' N' C'],.int .i64 0])∧Mine w base A N C z.num.natAbs∧Mine w base A' N' C' z.den:=by
 obtain ⟨s,a,n,c,a',n',c',r,rfl,⟨rfl,rfl,m1,m2⟩|⟨_,_,ho|ho⟩⟩:=h
 ·exact ⟨a,n,c,a',n',c',rfl,m1,m2⟩
 ·exact absurd ho (no_over (blen_lt h1) hK)
 ·exact absurd ho (no_over (blen_lt h2) hK)
theorem scale_tenth (s:Bool) (p d:Nat) (h0:0 < p) (hd:0 < d) (hg:Nat.gcd p d = 1) (bp:blen p≤2100) (bd:blen d≤2100) :
  ∃ u v:Nat,u * (d * 10) = p * v∧0 < u∧0 < v∧Nat.gcd u v = 1∧blen u≤2200∧blen v≤2200∧∀ (W:World) (a b:Option Addr) (n c k l:Nat),Num W a n p→Num W b k d→Calls Tryz.prog 8 #[.agg #[.bool s,.slice a n c,.slice b k l],.int .u32 10,.int .i64 (-1)] W fun en W'=>(∃ A N C A' N' C',en = .returned (.tuple #[.agg #[.bool s,.slice A N C,.slice A' N' C'],.int .i64 0])∧Mine W' W.heap.size A N C u∧Mine W' W.heap.size A' N' C' v)∧Below W.heap.size W W':=by
 have qy:=q_rqm (s:=false) (p:=10) (d:=1) (hd:=by decide) (hg:=by decide) (by simp)
 have qx:=q_rqm (hd:=hd) (hg:=hg) fun (_:s = true)=>h0
 obtain ⟨z,hz⟩:∃ z,z = rqm s p d hd hg / rqm false 10 1 (by decide) (by decide):=⟨_,rfl⟩
 have hm:=qx.mul (qy.inv (by decide))
 rw [← Rat.div_def,← hz,sgn_one,Nat.mul_one] at hm
 obtain ⟨f1,f2,f3,f4,f5,f6,f7⟩:=mk_facts hm h0 (by omega)
 have b1:=blen_mono f5
 have b2:=Nat.le_trans (blen_mono f6) (blen_ten d)
 refine ⟨z.num.natAbs,z.den,f2,f3,f4,f7,by omega,by omega,fun W a b n c k l h1 h2=>?_⟩
 refine sscale_m W s a b n c k l p d s _ _ (by omega) h1 h2 (hide fun W x1 x2=>rfr_ok s a b n c k l p d hd hg (fun _=>h0) W x1 x2) (hide fun W A N C A' N' C' y1 y2 y3 y4=>?_)
 refine (quotient_any s false a b A A' n k N N' c l C C' p d 10 1 _ _ W y1 y2 y3 y4 qx qy (by have:=y3.zero; simp; omega)).mono fun en W' ⟨r1,r2⟩=>⟨?_,r2⟩
 rw [← hz] at r1
 have:=rok_in (K:=2200) r1 (by omega) (by omega) (by omega)
 rw [f1] at this
 exact this
theorem salive_is (w:World) (hT:Tb w) (hN:Nb5 w) :
  Calls Tryz.prog 5 #[] w fun en w'=>en = .returned (.bool true)∧Below w.heap.size w w':=by
 refine calls_sym Tryz.func5 rfl (by kernel_rfl) fun T hK=>?_
 replace hK:Kn T _ []:=hK
 have hS:=Fb.begin w
 have hG:GsAt [] w:=trivial
 refine wp_symQ hS hG hK (fun p1=>[.v 0 (.bool false)]) (fun p1=>[(0,.bool false)]) (by kernel_rfl) (fun _ _=>by kernel_rfl) (fun _=>by kernel_rfl) (fun _=>by kernel_rfl) (fun p1=>?_) (fun p1 W1 T hF hK=>?_)
 ·refine ok_v (by kernel_rfl) ?_
  exact ok_nil
 replace hS:=SymF.fb hS hF [] [] (by kernel_rfl) (by kernel_rfl)
 replace hG:=hF.gx
 clear hF
 have z1:=hS.fr.size
 refine wp_symQ hS hG hK (fun p2=>[.c (some 15) (cH W1.heap.size 1 3 fun x9 y9=>.tuple #[.agg #[.bool true,x9,y9],.int .i64 0]),.v 14 (.tuple #[.agg #[.bool true,.slice (p2 0).A (p2 0).N (p2 0).C,.slice (p2 0).A' (p2 0).N' (p2 0).C'],.int .i64 0]),.v 16 (.agg #[.bool true,.slice (p2 0).A (p2 0).N (p2 0).C,.slice (p2 0).A' (p2 0).N' (p2 0).C']),.v 17 (.int .i64 0),.n 1 #[.bool false,.slice none 0 0,.slice none 0 0] 35,.p 1004 0 [.bool true,.slice (p2 0).A (p2 0).N (p2 0).C,.slice (p2 0).A' (p2 0).N' (p2 0).C'],.v 2 (.int .i64 0)]) (fun p2=>[(0,.bool false),(1,.pointer (some ⟨(p2 4).N,0,none⟩)),(2,.int .i64 0)]) (by kernel_rfl) (fun _ _=>by kernel_rfl) (fun _=>by kernel_rfl) (fun _=>by kernel_rfl) (fun p2=>?_) (fun p2 W2 T hF hK=>?_)
 ·refine ok_c (fun W cx=>as_h cx.hb (frac_is true 1 3 (by decide) (by decide) (by decide) (by decide) (by decide) _)) (by kernel_rfl) ?_
  iterate 3 refine ok_v (by kernel_rfl) ?_
  refine ok_n (fun _=>by kernel_rfl) ?_
  refine ok_P (by kernel_rfl) (by kernel_rfl) (by kernel_rfl) ?_
  refine ok_v (by kernel_rfl) ?_
  exact ok_nil
 replace hS:=SymF.fb hS hF [1004] [⟨(p2 4).N,#[.bool true,.slice (p2 0).A (p2 0).N (p2 0).C,.slice (p2 0).A' (p2 0).N' (p2 0).C'],35,true⟩] (by kernel_rfl) (by kernel_rfl)
 replace hG:GsAt (gM W1.heap.size (p2 0).A (p2 0).N (p2 0).C 1 :: gM W1.heap.size (p2 0).A' (p2 0).N' (p2 0).C' 3 :: _) W2:=⟨And.left (hF.fx 0),And.right (hF.fx 0),hF.gx⟩
 clear hF
 have z2:=hS.fr.size
 refine wp_symQ hS hG hK (fun p3=>[.c (some 19) (cH W2.heap.size 5 2 fun x9 y9=>.tuple #[.agg #[.bool false,x9,y9],.int .i64 0]),.v 18 (.tuple #[.agg #[.bool false,.slice (p3 0).A (p3 0).N (p3 0).C,.slice (p3 0).A' (p3 0).N' (p3 0).C'],.int .i64 0]),.v 20 (.agg #[.bool false,.slice (p3 0).A (p3 0).N (p3 0).C,.slice (p3 0).A' (p3 0).N' (p3 0).C']),.v 21 (.int .i64 0),.n 3 #[.bool false,.slice none 0 0,.slice none 0 0] 35,.p 1004 0 [.bool false,.slice (p3 0).A (p3 0).N (p3 0).C,.slice (p3 0).A' (p3 0).N' (p3 0).C'],.v 4 (.int .i64 0)]) (fun p3=>[(0,.bool false),(1,.pointer (some ⟨(p2 4).N,0,none⟩)),(2,.int .i64 0),(3,.pointer (some ⟨(p3 4).N,0,none⟩)),(4,.int .i64 0)]) (by kernel_rfl) (fun _ _=>by kernel_rfl) (fun _=>by kernel_rfl) (fun _=>by kernel_rfl) (fun p3=>?_) (fun p3 W3 T hF hK=>?_)
 ·refine ok_c (fun W cx=>as_h cx.hb (frac_is false 5 2 (by decide) (by decide) (by decide) (by decide) (by decide) _)) (by kernel_rfl) ?_
  iterate 3 refine ok_v (by kernel_rfl) ?_
  refine ok_n (fun _=>by kernel_rfl) ?_
  refine ok_P (by kernel_rfl) (by kernel_rfl) (by kernel_rfl) ?_
  refine ok_v (by kernel_rfl) ?_
  exact ok_nil
 replace hS:=SymF.fb hS hF [0,1004] [⟨(p2 4).N,#[.bool true,.slice (p2 0).A (p2 0).N (p2 0).C,.slice (p2 0).A' (p2 0).N' (p2 0).C'],35,true⟩,⟨(p3 4).N,#[.bool false,.slice (p3 0).A (p3 0).N (p3 0).C,.slice (p3 0).A' (p3 0).N' (p3 0).C'],35,true⟩] (by kernel_rfl) (by kernel_rfl)
 replace hG:GsAt (gM W2.heap.size (p3 0).A (p3 0).N (p3 0).C 5 :: gM W2.heap.size (p3 0).A' (p3 0).N' (p3 0).C' 2 :: _) W3:=⟨And.left (hF.fx 0),And.right (hF.fx 0),hF.gx⟩
 clear hF
 have z3:=hS.fr.size
 refine wp_symQ hS hG hK (fun p4=>[.v 23 (.agg #[.int .i64 5,.int .i64 10]),.l 24 (.agg #[.bool true,.slice (p2 0).A (p2 0).N (p2 0).C,.slice (p2 0).A' (p2 0).N' (p2 0).C']) 0 0,.c (some 25) (cV (.tuple #[.int .u64 46421,.int .u8 1,.int .i64 0])),.v 22 (.tuple #[.int .u64 46421,.int .u8 1,.int .i64 0]),.v 26 (.int .u64 46421),.v 27 (.int .u8 1),.v 28 (.int .i64 0),.v 5 (.int .u64 46421),.v 6 (.int .u8 1),.v 7 (.int .i64 0)]) (fun p4=>[(0,.bool false),(2,.int .i64 0),(3,.pointer (some ⟨(p3 4).N,0,none⟩)),(4,.int .i64 0),(5,.int .u64 46421),(6,.int .u8 1),(7,.int .i64 0)]) (by kernel_rfl) (fun _ _=>by kernel_rfl) (fun _=>by kernel_rfl) (fun _=>by kernel_rfl) (fun p4=>?_) (fun p4 W4 T hF hK=>?_)
 ·refine ok_v (by kernel_rfl) ?_
  refine ok_L (by kernel_rfl) (by kernel_rfl) (by kernel_rfl) ?_
  refine ok_c (fun W cx=>as_v (rat_c 5 10 15 32768 31744 0 true false 1 3 0 24595658764946068821 66 46421 1 (-67) ⟨by decide,by decide,by decide,by decide⟩ (by decide) (by decide) (by decide) (by decide) (by decide) (by decide) (by decide) (by decide) (by decide) (by kernel_rfl) (by decide) (by kernel_rfl) (by kernel_rfl) (by kernel_rfl) (by kernel_rfl) _ _ _ (p2 0).C _ (p2 0).C' _ (hT.kept cx.fr) (Mine.num cx.G.2.2.1) (Mine.num cx.G.2.2.2.1))) (by kernel_rfl) ?_
  iterate 7 refine ok_v (by kernel_rfl) ?_
  exact ok_nil
 replace hS:=SymF.fb hS hF [1] [⟨(p3 4).N,#[.bool false,.slice (p3 0).A (p3 0).N (p3 0).C,.slice (p3 0).A' (p3 0).N' (p3 0).C'],35,true⟩] (by kernel_rfl) (by kernel_rfl)
 replace hG:=hF.gx
 clear hF
 have z4:=hS.fr.size
 refine wp_symQ hS hG hK (fun p5=>[.l 30 (.agg #[.bool false,.slice (p3 0).A (p3 0).N (p3 0).C,.slice (p3 0).A' (p3 0).N' (p3 0).C']) 0 0,.c (some 31) (cG W4.heap.size 2 fun x9=>.tuple #[.bool false,.agg #[x9],.bool false,.int .i64 0]),.v 29 (.tuple #[.bool false,.agg #[.slice (p5 1).A (p5 1).N (p5 1).C],.bool false,.int .i64 0]),.v 32 (.bool false),.v 33 (.agg #[.slice (p5 1).A (p5 1).N (p5 1).C]),.v 34 (.bool false),.v 35 (.int .i64 0),.n 9 #[.slice none 0 0] 28,.v 8 (.bool false),.p 1007 0 [.slice (p5 1).A (p5 1).N (p5 1).C],.v 10 (.bool false),.v 11 (.int .i64 0)]) (fun p5=>[(0,.bool false),(2,.int .i64 0),(4,.int .i64 0),(5,.int .u64 46421),(6,.int .u8 1),(7,.int .i64 0),(8,.bool false),(9,.pointer (some ⟨(p5 7).N,0,none⟩)),(10,.bool false),(11,.int .i64 0)]) (by kernel_rfl) (fun _ _=>by kernel_rfl) (fun _=>by kernel_rfl) (fun _=>by kernel_rfl) (fun p5=>?_) (fun p5 W5 T hF hK=>?_)
 ·refine ok_L (by kernel_rfl) (by kernel_rfl) (by kernel_rfl) ?_
  refine ok_c (fun W cx=>as_g cx.hb (whole_near _ _ (p3 0).C 5 _ _ (p3 0).C' 2 0 (by decide) 1 2 false (by decide) (by decide) (by decide) (by decide) (by decide) (farther_any 0 false false 0 (by decide) (Or.inr (Or.inl rfl))) _ (Mine.num cx.G.1) (Mine.num cx.G.2.1) (by decide) (hide fun W9 hb9=>rchk_ok false _ _ _ _ _ _ 5 2 (by decide) (by decide) (by decide) W9 (Num.kept (Mine.num cx.G.1) hb9) (Num.kept (Mine.num cx.G.2.1) hb9)))) (by kernel_rfl) ?_
  iterate 5 refine ok_v (by kernel_rfl) ?_
  refine ok_n (fun _=>by kernel_rfl) ?_
  refine ok_v (by kernel_rfl) ?_
  refine ok_P (by kernel_rfl) (by kernel_rfl) (by kernel_rfl) ?_
  iterate 2 refine ok_v (by kernel_rfl) ?_
  exact ok_nil
 replace hS:=SymF.fb hS hF [1007] [⟨(p5 7).N,#[.slice (p5 1).A (p5 1).N (p5 1).C],28,true⟩] (by kernel_rfl) (by kernel_rfl)
 replace hG:GsAt (gM W4.heap.size (p5 1).A (p5 1).N (p5 1).C 2 :: _) W5:=⟨hF.fx 1,hF.gx⟩
 clear hF
 have z5:=hS.fr.size
 refine wp_symQ hS hG hK (fun p6=>[.c (some 37) (cV (.tuple #[.int .u8 1,.bool true])),.v 36 (.tuple #[.int .u8 1,.bool true]),.v 38 (.int .u8 1),.v 39 (.bool true),.v 12 (.int .u8 1),.v 13 (.bool true)]) (fun p6=>[(0,.bool false),(2,.int .i64 0),(4,.int .i64 0),(5,.int .u64 46421),(6,.int .u8 1),(7,.int .i64 0),(8,.bool false),(9,.pointer (some ⟨(p5 7).N,0,none⟩)),(10,.bool false),(11,.int .i64 0),(12,.int .u8 1),(13,.bool true)]) (by kernel_rfl) (fun _ _=>by kernel_rfl) (fun _=>by kernel_rfl) (fun _=>by kernel_rfl) (fun p6=>?_) (fun p6 W6 T hF hK=>?_)
 ·refine ok_c (fun W cx=>as_v (named_1 ⟨#[97,119,97,121]⟩ _ (hN.kept cx.fr) (by kernel_rfl) (by kernel_rfl))) (by kernel_rfl) ?_
  iterate 5 refine ok_v (by kernel_rfl) ?_
  exact ok_nil
 replace hS:=SymF.fb hS hF [0] [⟨(p5 7).N,#[.slice (p5 1).A (p5 1).N (p5 1).C],28,true⟩] (by kernel_rfl) (by kernel_rfl)
 replace hG:=hF.gx
 clear hF
 have z6:=hS.fr.size
 obtain ⟨eN,b9,eA,hc9⟩:=Mine.limb hG.1 (by decide) (by decide)
 rw [eA,eN] at hS
 replace hG:GsAt (gL b9 0 2 :: _) W6:=⟨hc9,hG⟩
 refine wp_symQ hS hG hK (fun p7=>[.v 40 (.int .i64 0),.v 41 (.bool true),.v 42 (.bool true),.v 43 (.int .i64 0),.v 44 (.bool true),.v 45 (.bool true),.v 46 (.bool true),.v 47 (.int .i64 0),.v 48 (.bool true),.v 49 (.bool true),.v 50 (.bool true),.v 51 (.int .i64 0),.v 52 (.bool true),.v 53 (.bool true),.v 54 (.bool true),.v 55 (.int .u64 46421),.v 56 (.bool true),.v 57 (.bool true),.v 58 (.bool true),.v 59 (.int .u8 1),.v 60 (.bool true),.v 61 (.bool true),.v 62 (.bool true),.v 63 (.bool false),.v 64 (.bool true),.v 65 (.bool true),.v 66 (.bool true),.v 67 (.bool false),.v 68 (.bool true),.v 69 (.bool true),.v 70 (.bool true),.v 71 (.pointer (some ⟨(p5 7).N,0,none⟩)),.l 72 (.slice (some ⟨b9,0,none⟩) 1 (p5 1).C) 0 0,.v 73 (.int .i64 1),.v 74 (.bool true),.v 75 (.bool true),.v 76 (.bool true),.v 77 (.pointer (some ⟨(p5 7).N,0,none⟩)),.l 78 (.slice (some ⟨b9,0,none⟩) 1 (p5 1).C) 0 0,.v 79 (.pointer (some ⟨b9,0,none⟩)),.g 80 (.int .u32 2) [.int .u32 2] [.ld ⟨b9,0,none⟩ (.int .u32 2)],.v 81 (.bool true),.v 82 (.bool true),.v 83 (.bool true),.v 84 (.int .u8 1),.v 85 (.bool true),.v 86 (.bool true),.v 87 (.bool true),.v 88 (.bool true),.v 89 (.bool true),.v 0 (.bool true)]) (fun p7=>[(0,.bool true)]) (by kernel_rfl) (fun _ _=>by kernel_rfl) (fun _=>by kernel_rfl) (fun _=>by kernel_rfl) (fun p7=>?_) (fun p7 W7 T hF hK=>?_)
 ·iterate 32 refine ok_v (by kernel_rfl) ?_
  refine ok_L (by kernel_rfl) (by kernel_rfl) (by kernel_rfl) ?_
  iterate 5 refine ok_v (by kernel_rfl) ?_
  refine ok_L (by kernel_rfl) (by kernel_rfl) (by kernel_rfl) ?_
  refine ok_v (by kernel_rfl) ?_
  refine ok_g (fun W cx=>⟨⟨cx.G.1,trivial⟩,rfl⟩) (by kernel_rfl) ?_
  iterate 10 refine ok_v (by kernel_rfl) ?_
  exact ok_nil
 replace hS:=SymF.fb hS hF [] [] (by kernel_rfl) (by kernel_rfl)
 replace hG:=hF.gx
 clear hF
 have z7:=hS.fr.size
 refine wp_ret ?_
 exact sym_end hS hK (.bool true) [] [] (by kernel_rfl) (by kernel_rfl) ⟨rfl,hS.fr⟩
theorem wrux {x:Int} (h1:0≤x) (h2:x < 18446744073709551616):IntKind.u64.wrap x = x:=by rw [IntKind.wrap_u64]; omega
theorem wor_err (w:World) (E F:Int) (md bt:Nat) (er:Int) (hT:Tb w) (hN:Nb5 w) (he:er≠0) (H2:Hid (∀ W:World,Below w.heap.size w W→Calls Tryz.prog 6 #[.agg #[.int .i64 E,.int .i64 F],.int .u64 (bt:Int)] W fun e W'=>e = .returned (.tuple #[.agg #[.bool false,.slice none 0 0,.int .i64 0],.int .i64 er])∧Below W.heap.size W W')) :
  Calls Tryz.prog 3 #[.agg #[.int .i64 E,.int .i64 F],.int .u64 (bt:Int),.int .u8 (md:Int)] w fun en w'=>en = .returned (.bool true)∧Below w.heap.size w w':=by
 refine calls_sym Tryz.func3 rfl (by kernel_rfl) fun T hK=>?_
 replace hK:Kn T _ [(0,.agg #[.int .i64 E,.int .i64 F]),(1,.int .u64 (bt:Int)),(2,.int .u8 (md:Int))]:=hK
 have hS:=Fb.begin w
 have hG:GsAt [] w:=trivial
 refine wp_symQ hS hG hK (fun p1=>[.n 3 #[.int .i64 E,.int .i64 F] 23,.v 6 (.bool false)]) (fun p1=>[(1,.int .u64 (bt:Int)),(2,.int .u8 (md:Int)),(3,.pointer (some ⟨(p1 0).N,0,none⟩)),(6,.bool false)]) (by kernel_rfl) (fun _ _=>by kernel_rfl) (fun _=>by kernel_rfl) (fun _=>by kernel_rfl) (fun p1=>?_) (fun p1 W1 T hF hK=>?_)
 ·refine ok_n (fun _=>by kernel_rfl) ?_
  refine ok_v (by kernel_rfl) ?_
  exact ok_nil
 replace hS:=SymF.fb hS hF [1000] [⟨(p1 0).N,#[.int .i64 E,.int .i64 F],23,true⟩] (by kernel_rfl) (by kernel_rfl)
 replace hG:=hF.gx
 clear hF
 have z1:=hS.fr.size
 refine wp_symQ hS hG hK (fun p2=>[.c (some 24) (cV (.bool true)),.v 7 (.bool true)]) (fun p2=>[(1,.int .u64 (bt:Int)),(2,.int .u8 (md:Int)),(3,.pointer (some ⟨(p1 0).N,0,none⟩)),(6,.bool false),(7,.bool true)]) (by kernel_rfl) (fun _ _=>by kernel_rfl) (fun _=>by kernel_rfl) (fun _=>by kernel_rfl) (fun p2=>?_) (fun p2 W2 T hF hK=>?_)
 ·refine ok_c (fun W cx=>as_v (salive_is _ (hT.kept cx.fr) (hN.kept cx.fr))) (by kernel_rfl) ?_
  refine ok_v (by kernel_rfl) ?_
  exact ok_nil
 replace hS:=SymF.fb hS hF [0] [⟨(p1 0).N,#[.int .i64 E,.int .i64 F],23,true⟩] (by kernel_rfl) (by kernel_rfl)
 replace hG:=hF.gx
 clear hF
 have z2:=hS.fr.size
 refine wp_symQ hS hG hK (fun p3=>[.l 26 (.agg #[.int .i64 E,.int .i64 F]) 0 0,.v 27 (.int .u64 (bt:Int)),.c (some 28) (cV (.tuple #[.agg #[.bool false,.slice none 0 0,.int .i64 0],.int .i64 er])),.v 25 (.tuple #[.agg #[.bool false,.slice none 0 0,.int .i64 0],.int .i64 er]),.v 29 (.agg #[.bool false,.slice none 0 0,.int .i64 0]),.v 30 (.int .i64 er),.n 8 #[.bool false,.slice none 0 0,.int .i64 0] 30,.p 1006 0 [.bool false,.slice none 0 0,.int .i64 0],.v 9 (.int .i64 er)]) (fun p3=>[(1,.int .u64 (bt:Int)),(2,.int .u8 (md:Int)),(3,.pointer (some ⟨(p1 0).N,0,none⟩)),(6,.bool false),(7,.bool true),(8,.pointer (some ⟨(p3 6).N,0,none⟩)),(9,.int .i64 er)]) (by kernel_rfl) (fun _ _=>by kernel_rfl) (fun _=>by kernel_rfl) (fun _=>by kernel_rfl) (fun p3=>?_) (fun p3 W3 T hF hK=>?_)
 ·refine ok_L (by kernel_rfl) (by kernel_rfl) (by kernel_rfl) ?_
  refine ok_v (by kernel_rfl) ?_
  refine ok_c (fun W cx=>as_v (unhide H2 _ cx.fr)) (by kernel_rfl) ?_
  iterate 3 refine ok_v (by kernel_rfl) ?_
  refine ok_n (fun _=>by kernel_rfl) ?_
  refine ok_P (by kernel_rfl) (by kernel_rfl) (by kernel_rfl) ?_
  refine ok_v (by kernel_rfl) ?_
  exact ok_nil
 replace hS:=SymF.fb hS hF [0,1006] [⟨(p1 0).N,#[.int .i64 E,.int .i64 F],23,true⟩,⟨(p3 6).N,#[.bool false,.slice none 0 0,.int .i64 0],30,true⟩] (by kernel_rfl) (by kernel_rfl)
 replace hG:=hF.gx
 clear hF
 have z3:=hS.fr.size
 refine wp_seq ?_
 refine wp_symQ hS hG hK (fun p4=>[.v 31 (.int .i64 er),.v 32 (.bool true),.v 33 (.bool true),.k (some 34),.k (some 35),.v 36 (.bool true)]) (fun p4=>[(1,.int .u64 (bt:Int)),(2,.int .u8 (md:Int)),(3,.pointer (some ⟨(p1 0).N,0,none⟩)),(6,.bool false),(7,.bool true),(8,.pointer (some ⟨(p3 6).N,0,none⟩)),(36,.bool true)]) (by kernel_rfl) (fun _ _=>by kernel_rfl) (fun _=>by kernel_rfl) (fun _=>by kernel_rfl) (fun p4=>?_) (fun p4 W4 T hF hK=>?_)
 ·refine ok_v (by kernel_rfl) ?_
  refine ok_vb (bne_iff_ne.2 he) (by kernel_rfl) ?_
  refine ok_v (by kernel_rfl) ?_
  iterate 2 refine ok_K (by kernel_rfl) ?_
  refine ok_v (by kernel_rfl) ?_
  exact ok_nil
 replace hS:=SymF.fb hS hF [0,1] [⟨(p1 0).N,#[.int .i64 E,.int .i64 F],23,true⟩,⟨(p3 6).N,#[.bool false,.slice none 0 0,.int .i64 0],30,true⟩] (by kernel_rfl) (by kernel_rfl)
 replace hG:=hF.gx
 clear hF
 have z4:=hS.fr.size
 refine wp_cond_true (hK.ev 36 (by kernel_rfl) _ (by kernel_rfl)) ?_
 refine wp_symQ hS hG hK (fun p5=>[.v 37 (.bool true),.v 6 (.bool true)]) (fun p5=>[(1,.int .u64 (bt:Int)),(2,.int .u8 (md:Int)),(3,.pointer (some ⟨(p1 0).N,0,none⟩)),(6,.bool true),(7,.bool true),(8,.pointer (some ⟨(p3 6).N,0,none⟩)),(36,.bool true)]) (by kernel_rfl) (fun _ _=>by kernel_rfl) (fun _=>by kernel_rfl) (fun _=>by kernel_rfl) (fun p5=>?_) (fun p5 W5 T hF hK=>?_)
 ·iterate 2 refine ok_v (by kernel_rfl) ?_
  exact ok_nil
 replace hS:=SymF.fb hS hF [0,1] [⟨(p1 0).N,#[.int .i64 E,.int .i64 F],23,true⟩,⟨(p3 6).N,#[.bool false,.slice none 0 0,.int .i64 0],30,true⟩] (by kernel_rfl) (by kernel_rfl)
 replace hG:=hF.gx
 clear hF
 have z5:=hS.fr.size
 refine wp_ret ?_
 refine then_r ?_
 exact sym_end hS hK (.bool true) [] [] (by kernel_rfl) (by kernel_rfl) ⟨rfl,hS.fr⟩
theorem wor_mode (w:World) (E F:Int) (md bt:Nat) (s:Bool) (X:Int) (M:Nat) (hT:Tb w) (hN:Nb5 w) (hm:4 < md) (H2:Hid (∀ W:World,Below w.heap.size w W→Calls Tryz.prog 6 #[.agg #[.int .i64 E,.int .i64 F],.int .u64 (bt:Int)] W fun en W'=>(∃ A N C,en = .returned (.tuple #[.agg #[.bool s,.slice A N C,.int .i64 X],.int .i64 0])∧Mine W' W.heap.size A N C M)∧Below W.heap.size W W')) :
  Calls Tryz.prog 3 #[.agg #[.int .i64 E,.int .i64 F],.int .u64 (bt:Int),.int .u8 (md:Int)] w fun en w'=>en = .returned (.bool true)∧Below w.heap.size w w':=by
 refine calls_sym Tryz.func3 rfl (by kernel_rfl) fun T hK=>?_
 replace hK:Kn T _ [(0,.agg #[.int .i64 E,.int .i64 F]),(1,.int .u64 (bt:Int)),(2,.int .u8 (md:Int))]:=hK
 have hS:=Fb.begin w
 have hG:GsAt [] w:=trivial
 refine wp_symQ hS hG hK (fun p1=>[.n 3 #[.int .i64 E,.int .i64 F] 23,.v 6 (.bool false)]) (fun p1=>[(1,.int .u64 (bt:Int)),(2,.int .u8 (md:Int)),(3,.pointer (some ⟨(p1 0).N,0,none⟩)),(6,.bool false)]) (by kernel_rfl) (fun _ _=>by kernel_rfl) (fun _=>by kernel_rfl) (fun _=>by kernel_rfl) (fun p1=>?_) (fun p1 W1 T hF hK=>?_)
 ·refine ok_n (fun _=>by kernel_rfl) ?_
  refine ok_v (by kernel_rfl) ?_
  exact ok_nil
 replace hS:=SymF.fb hS hF [1000] [⟨(p1 0).N,#[.int .i64 E,.int .i64 F],23,true⟩] (by kernel_rfl) (by kernel_rfl)
 replace hG:=hF.gx
 clear hF
 have z1:=hS.fr.size
 refine wp_symQ hS hG hK (fun p2=>[.c (some 24) (cV (.bool true)),.v 7 (.bool true)]) (fun p2=>[(1,.int .u64 (bt:Int)),(2,.int .u8 (md:Int)),(3,.pointer (some ⟨(p1 0).N,0,none⟩)),(6,.bool false),(7,.bool true)]) (by kernel_rfl) (fun _ _=>by kernel_rfl) (fun _=>by kernel_rfl) (fun _=>by kernel_rfl) (fun p2=>?_) (fun p2 W2 T hF hK=>?_)
 ·refine ok_c (fun W cx=>as_v (salive_is _ (hT.kept cx.fr) (hN.kept cx.fr))) (by kernel_rfl) ?_
  refine ok_v (by kernel_rfl) ?_
  exact ok_nil
 replace hS:=SymF.fb hS hF [0] [⟨(p1 0).N,#[.int .i64 E,.int .i64 F],23,true⟩] (by kernel_rfl) (by kernel_rfl)
 replace hG:=hF.gx
 clear hF
 have z2:=hS.fr.size
 refine wp_symQ hS hG hK (fun p3=>[.l 26 (.agg #[.int .i64 E,.int .i64 F]) 0 0,.v 27 (.int .u64 (bt:Int)),.c (some 28) (cG W2.heap.size M fun x9=>.tuple #[.agg #[.bool s,x9,.int .i64 X],.int .i64 0]),.v 25 (.tuple #[.agg #[.bool s,.slice (p3 2).A (p3 2).N (p3 2).C,.int .i64 X],.int .i64 0]),.v 29 (.agg #[.bool s,.slice (p3 2).A (p3 2).N (p3 2).C,.int .i64 X]),.v 30 (.int .i64 0),.n 8 #[.bool false,.slice none 0 0,.int .i64 0] 30,.p 1006 0 [.bool s,.slice (p3 2).A (p3 2).N (p3 2).C,.int .i64 X],.v 9 (.int .i64 0)]) (fun p3=>[(1,.int .u64 (bt:Int)),(2,.int .u8 (md:Int)),(3,.pointer (some ⟨(p1 0).N,0,none⟩)),(6,.bool false),(7,.bool true),(8,.pointer (some ⟨(p3 6).N,0,none⟩)),(9,.int .i64 0)]) (by kernel_rfl) (fun _ _=>by kernel_rfl) (fun _=>by kernel_rfl) (fun _=>by kernel_rfl) (fun p3=>?_) (fun p3 W3 T hF hK=>?_)
 ·refine ok_L (by kernel_rfl) (by kernel_rfl) (by kernel_rfl) ?_
  refine ok_v (by kernel_rfl) ?_
  refine ok_c (fun W cx=>as_g cx.hb (unhide H2 _ cx.fr)) (by kernel_rfl) ?_
  iterate 3 refine ok_v (by kernel_rfl) ?_
  refine ok_n (fun _=>by kernel_rfl) ?_
  refine ok_P (by kernel_rfl) (by kernel_rfl) (by kernel_rfl) ?_
  refine ok_v (by kernel_rfl) ?_
  exact ok_nil
 replace hS:=SymF.fb hS hF [0,1006] [⟨(p1 0).N,#[.int .i64 E,.int .i64 F],23,true⟩,⟨(p3 6).N,#[.bool s,.slice (p3 2).A (p3 2).N (p3 2).C,.int .i64 X],30,true⟩] (by kernel_rfl) (by kernel_rfl)
 replace hG:GsAt (gM W2.heap.size (p3 2).A (p3 2).N (p3 2).C M :: _) W3:=⟨hF.fx 2,hF.gx⟩
 clear hF
 have z3:=hS.fr.size
 refine wp_seq ?_
 refine wp_symQ hS hG hK (fun p4=>[.v 31 (.int .i64 0),.v 32 (.bool false),.v 33 (.bool false),.v 34 (.int .u8 (md:Int)),.v 35 (.bool true),.v 36 (.bool true)]) (fun p4=>[(1,.int .u64 (bt:Int)),(2,.int .u8 (md:Int)),(3,.pointer (some ⟨(p1 0).N,0,none⟩)),(6,.bool false),(7,.bool true),(8,.pointer (some ⟨(p3 6).N,0,none⟩)),(36,.bool true)]) (by kernel_rfl) (fun _ _=>by kernel_rfl) (fun _=>by kernel_rfl) (fun _=>by kernel_rfl) (fun p4=>?_) (fun p4 W4 T hF hK=>?_)
 ·iterate 4 refine ok_v (by kernel_rfl) ?_
  refine ok_vb (decide_eq_true (show (md:Int) > 4 by omega)) (by kernel_rfl) ?_
  refine ok_v (by kernel_rfl) ?_
  exact ok_nil
 replace hS:=SymF.fb hS hF [0,1] [⟨(p1 0).N,#[.int .i64 E,.int .i64 F],23,true⟩,⟨(p3 6).N,#[.bool s,.slice (p3 2).A (p3 2).N (p3 2).C,.int .i64 X],30,true⟩] (by kernel_rfl) (by kernel_rfl)
 replace hG:=hF.gx
 clear hF
 have z4:=hS.fr.size
 refine wp_cond_true (hK.ev 36 (by kernel_rfl) _ (by kernel_rfl)) ?_
 refine wp_symQ hS hG hK (fun p5=>[.v 37 (.bool true),.v 6 (.bool true)]) (fun p5=>[(1,.int .u64 (bt:Int)),(2,.int .u8 (md:Int)),(3,.pointer (some ⟨(p1 0).N,0,none⟩)),(6,.bool true),(7,.bool true),(8,.pointer (some ⟨(p3 6).N,0,none⟩)),(36,.bool true)]) (by kernel_rfl) (fun _ _=>by kernel_rfl) (fun _=>by kernel_rfl) (fun _=>by kernel_rfl) (fun p5=>?_) (fun p5 W5 T hF hK=>?_)
 ·iterate 2 refine ok_v (by kernel_rfl) ?_
  exact ok_nil
 replace hS:=SymF.fb hS hF [0,1] [⟨(p1 0).N,#[.int .i64 E,.int .i64 F],23,true⟩,⟨(p3 6).N,#[.bool s,.slice (p3 2).A (p3 2).N (p3 2).C,.int .i64 X],30,true⟩] (by kernel_rfl) (by kernel_rfl)
 replace hG:=hF.gx
 clear hF
 have z5:=hS.fr.size
 refine wp_ret ?_
 refine then_r ?_
 exact sym_end hS hK (.bool true) [] [] (by kernel_rfl) (by kernel_rfl) ⟨rfl,hS.fr⟩
theorem wor_main (w:World) (E F:Nat) (md bt:Nat) (s:Bool) (X:Int) (M:Nat) (ng:Bool) (t S u v y z:Nat) (hT:Tb w) (hN:Nb5 w) (hm:md≤4) (ht:E+F = t) (h63:t≤63) (hs:S = 2 ^ t) (hB:S≤9223372036854775808) (hng:decide ((bt:Int) ≥ (S:Int)) = ng) (H2:Hid (∀ W:World,Below w.heap.size w W→Calls Tryz.prog 6 #[.agg #[.int .i64 (E:Int),.int .i64 (F:Int)],.int .u64 (bt:Int)] W fun en W'=>(∃ A N C,en = .returned (.tuple #[.agg #[.bool s,.slice A N C,.int .i64 X],.int .i64 0])∧Mine W' W.heap.size A N C M)∧Below W.heap.size W W')) (H3:Hid (∀ (W:World) (A:Option Addr) (N C:Nat),Below w.heap.size w W→Num W A N M→Calls Tryz.prog 7 #[.agg #[.bool s,.slice A N C,.int .i64 X]] W fun en W'=>(∃ A N C A' N' C',en = .returned (.tuple #[.agg #[.bool s,.slice A N C,.slice A' N' C'],.int .i64 0])∧Mine W' W.heap.size A N C u∧Mine W' W.heap.size A' N' C' v)∧Below W.heap.size W W')) (H4:Hid (∀ (W:World) (A:Option Addr) (N C:Nat) (A':Option Addr) (N' C':Nat),Below w.heap.size w W→Num W A N u→Num W A' N' v→Calls Tryz.prog 8 #[.agg #[.bool s,.slice A N C,.slice A' N' C'],.int .u32 10,.int .i64 (-1)] W fun en W'=>(∃ A N C A' N' C',en = .returned (.tuple #[.agg #[.bool s,.slice A N C,.slice A' N' C'],.int .i64 0])∧Mine W' W.heap.size A N C y∧Mine W' W.heap.size A' N' C' z)∧Below W.heap.size W W')) (H5:Hid (∀ (W:World) (A:Option Addr) (N C:Nat) (A':Option Addr) (N' C':Nat),Below w.heap.size w W→Num W A N u→Num W A' N' v→Calls Tryz.prog 9 #[.agg #[.int .i64 (E:Int),.int .i64 (F:Int)],.agg #[.bool s,.slice A N C,.slice A' N' C'],.bool ng,.int .u8 (md:Int)] W fun e W'=>e = .returned (.tuple #[.int .u64 (bt:Int),.int .u8 0,.int .i64 0])∧Below W.heap.size W W')) (H6:Hid (∀ (W:World) (B:Nat) (A:Option Addr) (N C:Nat),Below w.heap.size w W→Mine W B A N C M→Calls Tryz.prog 10 #[.agg #[.int .i64 (E:Int),.int .i64 (F:Int)],.agg #[.bool s,.slice A N C,.int .i64 X],.bool ng,.int .u8 (md:Int)] W fun e W'=>e = .returned (.tuple #[.int .u64 (bt:Int),.int .u8 0,.int .i64 0])∧Below W.heap.size W W')) (H7:Hid (∀ (W:World) (A:Option Addr) (N C:Nat) (A':Option Addr) (N' C':Nat),Below w.heap.size w W→Num W A N y→Num W A' N' z→Calls Tryz.prog 11 #[.agg #[.int .i64 (E:Int),.int .i64 (F:Int)],.agg #[.bool s,.slice A N C,.slice A' N' C'],.int .i64 1,.bool ng,.int .u8 (md:Int)] W fun e W'=>e = .returned (.tuple #[.int .u64 (bt:Int),.int .u8 0,.int .i64 0])∧Below W.heap.size W W')) :
  Calls Tryz.prog 3 #[.agg #[.int .i64 (E:Int),.int .i64 (F:Int)],.int .u64 (bt:Int),.int .u8 (md:Int)] w fun en w'=>en = .returned (.bool true)∧Below w.heap.size w w':=by
 have hsh:IntKind.u64.wrap (1 * 2 ^ min (t:Int).toNat 64) = (S:Int):=by rw [Int.toNat_natCast,Nat.min_eq_left (by omega),Int.one_mul,hs]; exact (wrux (x:=((2 ^ t:Nat):Int)) (by omega) (by rw [← hs]; omega))
 refine calls_sym Tryz.func3 rfl (by kernel_rfl) fun T hK=>?_
 replace hK:Kn T _ [(0,.agg #[.int .i64 (E:Int),.int .i64 (F:Int)]),(1,.int .u64 (bt:Int)),(2,.int .u8 (md:Int))]:=hK
 have hS:=Fb.begin w
 have hG:GsAt [] w:=trivial
 refine wp_symQ hS hG hK (fun p1=>[.n 3 #[.int .i64 (E:Int),.int .i64 (F:Int)] 23,.v 6 (.bool false)]) (fun p1=>[(1,.int .u64 (bt:Int)),(2,.int .u8 (md:Int)),(3,.pointer (some ⟨(p1 0).N,0,none⟩)),(6,.bool false)]) (by kernel_rfl) (fun _ _=>by kernel_rfl) (fun _=>by kernel_rfl) (fun _=>by kernel_rfl) (fun p1=>?_) (fun p1 W1 T hF hK=>?_)
 ·refine ok_n (fun _=>by kernel_rfl) ?_
  refine ok_v (by kernel_rfl) ?_
  exact ok_nil
 replace hS:=SymF.fb hS hF [1000] [⟨(p1 0).N,#[.int .i64 (E:Int),.int .i64 (F:Int)],23,true⟩] (by kernel_rfl) (by kernel_rfl)
 replace hG:=hF.gx
 clear hF
 have z1:=hS.fr.size
 refine wp_symQ hS hG hK (fun p2=>[.c (some 24) (cV (.bool true)),.v 7 (.bool true)]) (fun p2=>[(1,.int .u64 (bt:Int)),(2,.int .u8 (md:Int)),(3,.pointer (some ⟨(p1 0).N,0,none⟩)),(6,.bool false),(7,.bool true)]) (by kernel_rfl) (fun _ _=>by kernel_rfl) (fun _=>by kernel_rfl) (fun _=>by kernel_rfl) (fun p2=>?_) (fun p2 W2 T hF hK=>?_)
 ·refine ok_c (fun W cx=>as_v (salive_is _ (hT.kept cx.fr) (hN.kept cx.fr))) (by kernel_rfl) ?_
  refine ok_v (by kernel_rfl) ?_
  exact ok_nil
 replace hS:=SymF.fb hS hF [0] [⟨(p1 0).N,#[.int .i64 (E:Int),.int .i64 (F:Int)],23,true⟩] (by kernel_rfl) (by kernel_rfl)
 replace hG:=hF.gx
 clear hF
 have z2:=hS.fr.size
 refine wp_symQ hS hG hK (fun p3=>[.l 26 (.agg #[.int .i64 (E:Int),.int .i64 (F:Int)]) 0 0,.v 27 (.int .u64 (bt:Int)),.c (some 28) (cG W2.heap.size M fun x9=>.tuple #[.agg #[.bool s,x9,.int .i64 X],.int .i64 0]),.v 25 (.tuple #[.agg #[.bool s,.slice (p3 2).A (p3 2).N (p3 2).C,.int .i64 X],.int .i64 0]),.v 29 (.agg #[.bool s,.slice (p3 2).A (p3 2).N (p3 2).C,.int .i64 X]),.v 30 (.int .i64 0),.n 8 #[.bool false,.slice none 0 0,.int .i64 0] 30,.p 1006 0 [.bool s,.slice (p3 2).A (p3 2).N (p3 2).C,.int .i64 X],.v 9 (.int .i64 0)]) (fun p3=>[(1,.int .u64 (bt:Int)),(2,.int .u8 (md:Int)),(3,.pointer (some ⟨(p1 0).N,0,none⟩)),(6,.bool false),(7,.bool true),(8,.pointer (some ⟨(p3 6).N,0,none⟩)),(9,.int .i64 0)]) (by kernel_rfl) (fun _ _=>by kernel_rfl) (fun _=>by kernel_rfl) (fun _=>by kernel_rfl) (fun p3=>?_) (fun p3 W3 T hF hK=>?_)
 ·refine ok_L (by kernel_rfl) (by kernel_rfl) (by kernel_rfl) ?_
  refine ok_v (by kernel_rfl) ?_
  refine ok_c (fun W cx=>as_g cx.hb (unhide H2 _ cx.fr)) (by kernel_rfl) ?_
  iterate 3 refine ok_v (by kernel_rfl) ?_
  refine ok_n (fun _=>by kernel_rfl) ?_
  refine ok_P (by kernel_rfl) (by kernel_rfl) (by kernel_rfl) ?_
  refine ok_v (by kernel_rfl) ?_
  exact ok_nil
 replace hS:=SymF.fb hS hF [0,1006] [⟨(p1 0).N,#[.int .i64 (E:Int),.int .i64 (F:Int)],23,true⟩,⟨(p3 6).N,#[.bool s,.slice (p3 2).A (p3 2).N (p3 2).C,.int .i64 X],30,true⟩] (by kernel_rfl) (by kernel_rfl)
 replace hG:GsAt (gM W2.heap.size (p3 2).A (p3 2).N (p3 2).C M :: _) W3:=⟨hF.fx 2,hF.gx⟩
 clear hF
 have z3:=hS.fr.size
 refine wp_seq ?_
 refine wp_symQ hS hG hK (fun p4=>[.v 31 (.int .i64 0),.v 32 (.bool false),.v 33 (.bool false),.v 34 (.int .u8 (md:Int)),.v 35 (.bool false),.v 36 (.bool false)]) (fun p4=>[(1,.int .u64 (bt:Int)),(2,.int .u8 (md:Int)),(3,.pointer (some ⟨(p1 0).N,0,none⟩)),(6,.bool false),(7,.bool true),(8,.pointer (some ⟨(p3 6).N,0,none⟩)),(36,.bool false)]) (by kernel_rfl) (fun _ _=>by kernel_rfl) (fun _=>by kernel_rfl) (fun _=>by kernel_rfl) (fun p4=>?_) (fun p4 W4 T hF hK=>?_)
 ·iterate 4 refine ok_v (by kernel_rfl) ?_
  refine ok_vb (decide_eq_false (show ¬ (md:Int) > 4 by omega)) (by kernel_rfl) ?_
  refine ok_v (by kernel_rfl) ?_
  exact ok_nil
 replace hS:=SymF.fb hS hF [0,1] [⟨(p1 0).N,#[.int .i64 (E:Int),.int .i64 (F:Int)],23,true⟩,⟨(p3 6).N,#[.bool s,.slice (p3 2).A (p3 2).N (p3 2).C,.int .i64 X],30,true⟩] (by kernel_rfl) (by kernel_rfl)
 replace hG:=hF.gx
 clear hF
 have z4:=hS.fr.size
 refine wp_cond_false (hK.ev 36 (by kernel_rfl) _ (by kernel_rfl)) ?_
 refine wp_skip ?_
 refine then_n ?_
 refine wp_symQ hS hG hK (fun p5=>[.l 39 (.agg #[.bool s,.slice (p3 2).A (p3 2).N (p3 2).C,.int .i64 X]) 1 0,.c (some 40) (cH W4.heap.size u v fun x9 y9=>.tuple #[.agg #[.bool s,x9,y9],.int .i64 0]),.v 38 (.tuple #[.agg #[.bool s,.slice (p5 1).A (p5 1).N (p5 1).C,.slice (p5 1).A' (p5 1).N' (p5 1).C'],.int .i64 0]),.v 41 (.agg #[.bool s,.slice (p5 1).A (p5 1).N (p5 1).C,.slice (p5 1).A' (p5 1).N' (p5 1).C']),.v 42 (.int .i64 0),.n 10 #[.bool false,.slice none 0 0,.slice none 0 0] 35,.p 1005 0 [.bool s,.slice (p5 1).A (p5 1).N (p5 1).C,.slice (p5 1).A' (p5 1).N' (p5 1).C'],.v 11 (.int .i64 0)]) (fun p5=>[(1,.int .u64 (bt:Int)),(2,.int .u8 (md:Int)),(3,.pointer (some ⟨(p1 0).N,0,none⟩)),(6,.bool false),(7,.bool true),(8,.pointer (some ⟨(p3 6).N,0,none⟩)),(10,.pointer (some ⟨(p5 5).N,0,none⟩)),(11,.int .i64 0),(36,.bool false)]) (by kernel_rfl) (fun _ _=>by kernel_rfl) (fun _=>by kernel_rfl) (fun _=>by kernel_rfl) (fun p5=>?_) (fun p5 W5 T hF hK=>?_)
 ·refine ok_L (by kernel_rfl) (by kernel_rfl) (by kernel_rfl) ?_
  refine ok_c (fun W cx=>as_h cx.hb (unhide H3 _ _ _ (p3 2).C cx.fr (Mine.num cx.G.1))) (by kernel_rfl) ?_
  iterate 3 refine ok_v (by kernel_rfl) ?_
  refine ok_n (fun _=>by kernel_rfl) ?_
  refine ok_P (by kernel_rfl) (by kernel_rfl) (by kernel_rfl) ?_
  refine ok_v (by kernel_rfl) ?_
  exact ok_nil
 replace hS:=SymF.fb hS hF [0,1,1005] [⟨(p1 0).N,#[.int .i64 (E:Int),.int .i64 (F:Int)],23,true⟩,⟨(p3 6).N,#[.bool s,.slice (p3 2).A (p3 2).N (p3 2).C,.int .i64 X],30,true⟩,⟨(p5 5).N,#[.bool s,.slice (p5 1).A (p5 1).N (p5 1).C,.slice (p5 1).A' (p5 1).N' (p5 1).C'],35,true⟩] (by kernel_rfl) (by kernel_rfl)
 replace hG:GsAt (gM W4.heap.size (p5 1).A (p5 1).N (p5 1).C u :: gM W4.heap.size (p5 1).A' (p5 1).N' (p5 1).C' v :: _) W5:=⟨And.left (hF.fx 1),And.right (hF.fx 1),hF.gx⟩
 clear hF
 have z5:=hS.fr.size
 refine wp_symQ hS hG hK (fun p6=>[.l 44 (.agg #[.bool s,.slice (p5 1).A (p5 1).N (p5 1).C,.slice (p5 1).A' (p5 1).N' (p5 1).C']) 2 0,.c (some 45) (cH W5.heap.size y z fun x9 y9=>.tuple #[.agg #[.bool s,x9,y9],.int .i64 0]),.v 43 (.tuple #[.agg #[.bool s,.slice (p6 1).A (p6 1).N (p6 1).C,.slice (p6 1).A' (p6 1).N' (p6 1).C'],.int .i64 0]),.v 46 (.agg #[.bool s,.slice (p6 1).A (p6 1).N (p6 1).C,.slice (p6 1).A' (p6 1).N' (p6 1).C']),.v 47 (.int .i64 0),.n 12 #[.bool false,.slice none 0 0,.slice none 0 0] 35,.p 1005 0 [.bool s,.slice (p6 1).A (p6 1).N (p6 1).C,.slice (p6 1).A' (p6 1).N' (p6 1).C'],.v 13 (.int .i64 0)]) (fun p6=>[(1,.int .u64 (bt:Int)),(2,.int .u8 (md:Int)),(3,.pointer (some ⟨(p1 0).N,0,none⟩)),(6,.bool false),(7,.bool true),(8,.pointer (some ⟨(p3 6).N,0,none⟩)),(10,.pointer (some ⟨(p5 5).N,0,none⟩)),(11,.int .i64 0),(12,.pointer (some ⟨(p6 5).N,0,none⟩)),(13,.int .i64 0),(36,.bool false)]) (by kernel_rfl) (fun _ _=>by kernel_rfl) (fun _=>by kernel_rfl) (fun _=>by kernel_rfl) (fun p6=>?_) (fun p6 W6 T hF hK=>?_)
 ·refine ok_L (by kernel_rfl) (by kernel_rfl) (by kernel_rfl) ?_
  refine ok_c (fun W cx=>as_h cx.hb (unhide H4 _ _ _ (p5 1).C _ _ (p5 1).C' cx.fr (Mine.num cx.G.1) (Mine.num cx.G.2.1))) (by kernel_rfl) ?_
  iterate 3 refine ok_v (by kernel_rfl) ?_
  refine ok_n (fun _=>by kernel_rfl) ?_
  refine ok_P (by kernel_rfl) (by kernel_rfl) (by kernel_rfl) ?_
  refine ok_v (by kernel_rfl) ?_
  exact ok_nil
 replace hS:=SymF.fb hS hF [0,1,2,1005] [⟨(p1 0).N,#[.int .i64 (E:Int),.int .i64 (F:Int)],23,true⟩,⟨(p3 6).N,#[.bool s,.slice (p3 2).A (p3 2).N (p3 2).C,.int .i64 X],30,true⟩,⟨(p5 5).N,#[.bool s,.slice (p5 1).A (p5 1).N (p5 1).C,.slice (p5 1).A' (p5 1).N' (p5 1).C'],35,true⟩,⟨(p6 5).N,#[.bool s,.slice (p6 1).A (p6 1).N (p6 1).C,.slice (p6 1).A' (p6 1).N' (p6 1).C'],35,true⟩] (by kernel_rfl) (by kernel_rfl)
 replace hG:GsAt (gM W5.heap.size (p6 1).A (p6 1).N (p6 1).C y :: gM W5.heap.size (p6 1).A' (p6 1).N' (p6 1).C' z :: _) W6:=⟨And.left (hF.fx 1),And.right (hF.fx 1),hF.gx⟩
 clear hF
 have z6:=hS.fr.size
 refine wp_symQ hS hG hK (fun p7=>[.v 48 (.int .u64 (bt:Int)),.v 49 (.pointer (some ⟨(p1 0).N,0,none⟩)),.l 50 (.int .i64 (E:Int)) 0 0,.v 51 (.pointer (some ⟨(p1 0).N,1,none⟩)),.l 52 (.int .i64 (F:Int)) 0 1,.v 53 (.int .i64 (t:Int)),.v 54 (.int .u64 (t:Int)),.v 55 (.int .u64 (S:Int)),.v 56 (.bool ng),.v 14 (.bool ng)]) (fun p7=>[(1,.int .u64 (bt:Int)),(2,.int .u8 (md:Int)),(3,.pointer (some ⟨(p1 0).N,0,none⟩)),(6,.bool false),(7,.bool true),(8,.pointer (some ⟨(p3 6).N,0,none⟩)),(10,.pointer (some ⟨(p5 5).N,0,none⟩)),(11,.int .i64 0),(12,.pointer (some ⟨(p6 5).N,0,none⟩)),(13,.int .i64 0),(14,.bool ng),(36,.bool false)]) (by kernel_rfl) (fun _ _=>by kernel_rfl) (fun _=>by kernel_rfl) (fun _=>by kernel_rfl) (fun p7=>?_) (fun p7 W7 T hF hK=>?_)
 ·iterate 2 refine ok_v (by kernel_rfl) ?_
  refine ok_L (by kernel_rfl) (by kernel_rfl) (by kernel_rfl) ?_
  refine ok_v (by kernel_rfl) ?_
  refine ok_L (by kernel_rfl) (by kernel_rfl) (by kernel_rfl) ?_
  refine ok_vi ((wr64 (x:=(E:Int)+(F:Int)) (by omega) (by omega)).trans (by omega)) (by kernel_rfl) ?_
  refine ok_vi (wrux (x:=(t:Int)) (by omega) (by omega)) (by kernel_rfl) ?_
  refine ok_vi (hsh) (by kernel_rfl) ?_
  refine ok_vb (hng) (by kernel_rfl) ?_
  refine ok_v (by kernel_rfl) ?_
  exact ok_nil
 replace hS:=SymF.fb hS hF [0,1,2,3] [⟨(p1 0).N,#[.int .i64 (E:Int),.int .i64 (F:Int)],23,true⟩,⟨(p3 6).N,#[.bool s,.slice (p3 2).A (p3 2).N (p3 2).C,.int .i64 X],30,true⟩,⟨(p5 5).N,#[.bool s,.slice (p5 1).A (p5 1).N (p5 1).C,.slice (p5 1).A' (p5 1).N' (p5 1).C'],35,true⟩,⟨(p6 5).N,#[.bool s,.slice (p6 1).A (p6 1).N (p6 1).C,.slice (p6 1).A' (p6 1).N' (p6 1).C'],35,true⟩] (by kernel_rfl) (by kernel_rfl)
 replace hG:=hF.gx
 clear hF
 have z7:=hS.fr.size
 refine wp_symQ hS hG hK (fun p8=>[.l 58 (.agg #[.int .i64 (E:Int),.int .i64 (F:Int)]) 0 0,.l 59 (.agg #[.bool s,.slice (p5 1).A (p5 1).N (p5 1).C,.slice (p5 1).A' (p5 1).N' (p5 1).C']) 2 0,.v 60 (.bool ng),.v 61 (.int .u8 (md:Int)),.c (some 62) (cV (.tuple #[.int .u64 (bt:Int),.int .u8 0,.int .i64 0])),.v 57 (.tuple #[.int .u64 (bt:Int),.int .u8 0,.int .i64 0]),.v 63 (.int .u64 (bt:Int)),.v 64 (.int .u8 0),.v 65 (.int .i64 0),.v 15 (.int .u64 (bt:Int)),.v 16 (.int .u8 0),.v 17 (.int .i64 0)]) (fun p8=>[(1,.int .u64 (bt:Int)),(2,.int .u8 (md:Int)),(3,.pointer (some ⟨(p1 0).N,0,none⟩)),(6,.bool false),(7,.bool true),(8,.pointer (some ⟨(p3 6).N,0,none⟩)),(11,.int .i64 0),(12,.pointer (some ⟨(p6 5).N,0,none⟩)),(13,.int .i64 0),(14,.bool ng),(15,.int .u64 (bt:Int)),(16,.int .u8 0),(17,.int .i64 0),(36,.bool false)]) (by kernel_rfl) (fun _ _=>by kernel_rfl) (fun _=>by kernel_rfl) (fun _=>by kernel_rfl) (fun p8=>?_) (fun p8 W8 T hF hK=>?_)
 ·iterate 2 refine ok_L (by kernel_rfl) (by kernel_rfl) (by kernel_rfl) ?_
  iterate 2 refine ok_v (by kernel_rfl) ?_
  refine ok_c (fun W cx=>as_v (unhide H5 _ _ _ (p5 1).C _ _ (p5 1).C' cx.fr (Mine.num cx.G.2.2.1) (Mine.num cx.G.2.2.2.1))) (by kernel_rfl) ?_
  iterate 7 refine ok_v (by kernel_rfl) ?_
  exact ok_nil
 replace hS:=SymF.fb hS hF [0,1,3] [⟨(p1 0).N,#[.int .i64 (E:Int),.int .i64 (F:Int)],23,true⟩,⟨(p3 6).N,#[.bool s,.slice (p3 2).A (p3 2).N (p3 2).C,.int .i64 X],30,true⟩,⟨(p6 5).N,#[.bool s,.slice (p6 1).A (p6 1).N (p6 1).C,.slice (p6 1).A' (p6 1).N' (p6 1).C'],35,true⟩] (by kernel_rfl) (by kernel_rfl)
 replace hG:=hF.gx
 clear hF
 have z8:=hS.fr.size
 refine wp_symQ hS hG hK (fun p9=>[.l 67 (.agg #[.int .i64 (E:Int),.int .i64 (F:Int)]) 0 0,.l 68 (.agg #[.bool s,.slice (p3 2).A (p3 2).N (p3 2).C,.int .i64 X]) 1 0,.v 69 (.bool ng),.v 70 (.int .u8 (md:Int)),.c (some 71) (cV (.tuple #[.int .u64 (bt:Int),.int .u8 0,.int .i64 0])),.v 66 (.tuple #[.int .u64 (bt:Int),.int .u8 0,.int .i64 0]),.v 72 (.int .u64 (bt:Int)),.v 73 (.int .u8 0),.v 74 (.int .i64 0),.v 18 (.int .u64 (bt:Int)),.v 19 (.int .u8 0),.v 20 (.int .i64 0)]) (fun p9=>[(1,.int .u64 (bt:Int)),(2,.int .u8 (md:Int)),(3,.pointer (some ⟨(p1 0).N,0,none⟩)),(6,.bool false),(7,.bool true),(11,.int .i64 0),(12,.pointer (some ⟨(p6 5).N,0,none⟩)),(13,.int .i64 0),(14,.bool ng),(15,.int .u64 (bt:Int)),(16,.int .u8 0),(17,.int .i64 0),(18,.int .u64 (bt:Int)),(19,.int .u8 0),(20,.int .i64 0),(36,.bool false)]) (by kernel_rfl) (fun _ _=>by kernel_rfl) (fun _=>by kernel_rfl) (fun _=>by kernel_rfl) (fun p9=>?_) (fun p9 W9 T hF hK=>?_)
 ·iterate 2 refine ok_L (by kernel_rfl) (by kernel_rfl) (by kernel_rfl) ?_
  iterate 2 refine ok_v (by kernel_rfl) ?_
  refine ok_c (fun W cx=>as_v (unhide H6 _ _ _ _ (p3 2).C cx.fr cx.G.2.2.2.2.1)) (by kernel_rfl) ?_
  iterate 7 refine ok_v (by kernel_rfl) ?_
  exact ok_nil
 replace hS:=SymF.fb hS hF [0,2] [⟨(p1 0).N,#[.int .i64 (E:Int),.int .i64 (F:Int)],23,true⟩,⟨(p6 5).N,#[.bool s,.slice (p6 1).A (p6 1).N (p6 1).C,.slice (p6 1).A' (p6 1).N' (p6 1).C'],35,true⟩] (by kernel_rfl) (by kernel_rfl)
 replace hG:=hF.gx
 clear hF
 have z9:=hS.fr.size
 refine wp_symQ hS hG hK (fun p10=>[.l 76 (.agg #[.int .i64 (E:Int),.int .i64 (F:Int)]) 0 0,.l 77 (.agg #[.bool s,.slice (p6 1).A (p6 1).N (p6 1).C,.slice (p6 1).A' (p6 1).N' (p6 1).C']) 1 0,.v 78 (.bool ng),.v 79 (.int .u8 (md:Int)),.c (some 80) (cV (.tuple #[.int .u64 (bt:Int),.int .u8 0,.int .i64 0])),.v 75 (.tuple #[.int .u64 (bt:Int),.int .u8 0,.int .i64 0]),.v 81 (.int .u64 (bt:Int)),.v 82 (.int .u8 0),.v 83 (.int .i64 0),.v 21 (.int .u64 (bt:Int)),.v 22 (.int .u8 0),.v 23 (.int .i64 0)]) (fun p10=>[(1,.int .u64 (bt:Int)),(6,.bool false),(7,.bool true),(11,.int .i64 0),(13,.int .i64 0),(15,.int .u64 (bt:Int)),(16,.int .u8 0),(17,.int .i64 0),(18,.int .u64 (bt:Int)),(19,.int .u8 0),(20,.int .i64 0),(21,.int .u64 (bt:Int)),(22,.int .u8 0),(23,.int .i64 0),(36,.bool false)]) (by kernel_rfl) (fun _ _=>by kernel_rfl) (fun _=>by kernel_rfl) (fun _=>by kernel_rfl) (fun p10=>?_) (fun p10 W10 T hF hK=>?_)
 ·iterate 2 refine ok_L (by kernel_rfl) (by kernel_rfl) (by kernel_rfl) ?_
  iterate 2 refine ok_v (by kernel_rfl) ?_
  refine ok_c (fun W cx=>as_v (unhide H7 _ _ _ (p6 1).C _ _ (p6 1).C' cx.fr (Mine.num cx.G.1) (Mine.num cx.G.2.1))) (by kernel_rfl) ?_
  iterate 7 refine ok_v (by kernel_rfl) ?_
  exact ok_nil
 replace hS:=SymF.fb hS hF [] [] (by kernel_rfl) (by kernel_rfl)
 replace hG:=hF.gx
 clear hF
 have z10:=hS.fr.size
 refine wp_symQ hS hG hK (fun p11=>[.v 84 (.bool true),.v 85 (.bool true),.v 86 (.int .i64 0),.v 87 (.bool true),.v 88 (.bool true),.v 89 (.bool true),.v 90 (.int .i64 0),.v 91 (.bool true),.v 92 (.bool true),.v 93 (.bool true),.v 94 (.int .i64 0),.v 95 (.bool true),.v 96 (.bool true),.v 97 (.bool true),.v 98 (.int .i64 0),.v 99 (.bool true),.v 100 (.bool true),.v 101 (.bool true),.v 102 (.int .i64 0),.v 103 (.bool true),.v 104 (.bool true),.v 105 (.bool true),.v 106 (.int .u64 (bt:Int)),.v 107 (.int .u64 (bt:Int)),.v 108 (.bool true),.v 109 (.bool true),.v 110 (.bool true),.v 111 (.int .u64 (bt:Int)),.v 112 (.int .u64 (bt:Int)),.v 113 (.bool true),.v 114 (.bool true),.v 115 (.bool true),.v 116 (.int .u64 (bt:Int)),.v 117 (.int .u64 (bt:Int)),.v 118 (.bool true),.v 119 (.bool true),.v 120 (.bool true),.v 121 (.int .u8 0),.v 122 (.bool true),.v 123 (.bool true),.v 124 (.bool true),.v 125 (.int .u8 0),.v 126 (.bool true),.v 127 (.bool true),.v 128 (.bool true),.v 129 (.int .u8 0),.v 130 (.bool true),.v 131 (.bool true),.v 6 (.bool true)]) (fun p11=>[(6,.bool true),(7,.bool true),(36,.bool false)]) (by kernel_rfl) (fun _ _=>by kernel_rfl) (fun _=>by kernel_rfl) (fun _=>by kernel_rfl) (fun p11=>?_) (fun p11 W11 T hF hK=>?_)
 ·iterate 24 refine ok_v (by kernel_rfl) ?_
  refine ok_vb (beq_self_eq_true (bt:Int)) (by kernel_rfl) ?_
  iterate 4 refine ok_v (by kernel_rfl) ?_
  refine ok_vb (beq_self_eq_true (bt:Int)) (by kernel_rfl) ?_
  iterate 4 refine ok_v (by kernel_rfl) ?_
  refine ok_vb (beq_self_eq_true (bt:Int)) (by kernel_rfl) ?_
  iterate 14 refine ok_v (by kernel_rfl) ?_
  exact ok_nil
 replace hS:=SymF.fb hS hF [] [] (by kernel_rfl) (by kernel_rfl)
 replace hG:=hF.gx
 clear hF
 have z11:=hS.fr.size
 refine wp_ret ?_
 exact sym_end hS hK (.bool true) [] [] (by kernel_rfl) (by kernel_rfl) ⟨rfl,hS.fr⟩
theorem odd_gcd {m j:Nat} (h:m % 2 = 1):Nat.gcd m (2 ^ j) = 1:=by
 refine Nat.Coprime.pow_right j ?_
 show Nat.gcd m 2 = 1
 rw [Nat.gcd_comm,Nat.gcd_rec,h]; rfl
theorem mul_pow_len {m K i:Nat} (h:m < 2 ^ K):blen (m * 2 ^ i)≤K+i:=by
 refine (bl_blen _).le_of ?_
 rw [Nat.pow_add]
 exact Nat.mul_lt_mul_of_pos_right h (Nat.pow_pos (by omega))
theorem roundWorth_any (E F:Int) (bt md:Nat) (w:World) (hT:Tb w) (hN:Nb5 w) :
  Calls Tryz.prog 3 #[.agg #[.int .i64 E,.int .i64 F],.int .u64 (bt:Int),.int .u8 (md:Int)] w fun e w'=>e = .returned (.bool true)∧Below w.heap.size w w':=by
 by_cases hf:E < 2∨11 < E∨F < 1∨52 < F
 ·exact wor_err w E F md bt 5 hT hN (by decide) (hide fun W _=>Value_form E F hf bt W)
 obtain ⟨e,rfl⟩:∃ e:Nat,E = (e:Int):=⟨E.toNat,by omega⟩
 obtain ⟨f,rfl⟩:∃ f:Nat,F = (f:Int):=⟨F.toNat,by omega⟩
 have h0:Fo e f:=⟨by omega,by omega,by omega,by omega⟩
 by_cases hm:2 ^ (f+e+1)≤bt
 ·exact wor_err w e f md bt 6 hT hN (by decide) (hide fun W _=>Value_many e f bt h0 hm W)
 have hB:=Bt.of e f bt (by omega)
 generalize decide (bt / 2 ^ (f+e) = 1) = s at hB
 generalize bt % 2 ^ (f+e) / 2 ^ f = ex at hB
 generalize bt % 2 ^ f = fr at hB
 have hex:=hB.ex_lt
 obtain ⟨B,hBB⟩:∃ B,B = 2 ^ (e - 1) - 1:=⟨_,rfl⟩
 by_cases hfin:ex+1 < 2 ^ e
 case neg=>
  have h2:=(pow_bound h0.e2:2 ^ 2≤2 ^ e)
  by_cases h4:fr = 0
  ·exact wor_err w e f md bt 8 hT hN (by decide) (hide fun W _=>Value_4 e f B bt ex fr s h0 (hide hBB) hB (by unfold cls; rw [if_neg (by omega),if_neg (by omega),if_neg (by omega),if_pos h4]) W)
  ·exact wor_err w e f md bt 8 hT hN (by decide) (hide fun W _=>Value_5 e f B bt ex fr s h0 (hide hBB) hB (by unfold cls; rw [if_neg (by omega),if_neg (by omega),if_neg (by omega),if_neg h4]) W)
 have hF:Fm e f (2 ^ (f+e)) ((2 ^ e - 1) * 2 ^ f):=⟨h0,rfl,rfl⟩
 have hlow:=hB.low
 have heq:=hB.eq
 generalize 2 ^ (f+e) = S at hF hlow heq
 generalize (2 ^ e - 1) * 2 ^ f = I at hF
 have hs2:S = 2 ^ (e+f):=by rw [Nat.add_comm]; exact hF.hS
 have h63:e+f≤63:=by have:=h0.sum; omega
 have hng:decide ((bt:Int) ≥ (S:Int)) = s:=by
  cases s
  ·rw [decide_eq_false_iff_not]; simp at heq; omega
  ·rw [decide_eq_true_iff]; simp at heq; omega
 by_cases hz:ex = 0∧fr = 0
 ·obtain ⟨rfl,rfl⟩:=hz
  have H2:∀ W:World,Below w.heap.size w W→Calls Tryz.prog 6 #[.agg #[.int .i64 (e:Int),.int .i64 (f:Int)],.int .u64 (bt:Int)] W fun en W'=>(∃ A N C,en = .returned (.tuple #[.agg #[.bool false,.slice A N C,.int .i64 0],.int .i64 0])∧Mine W' W.heap.size A N C 0)∧Below W.heap.size W W':=fun W _=>stand_z (Value_zero e f B bt s W h0 (hide hBB) hB)
  by_cases h4:4 < md
  ·exact wor_mode w e f md bt false 0 0 hT hN h4 (hide H2)
  have hm4:md≤4:=by omega
  have hbt:(if s then S else 0) = bt:=by rw [heq]; cases s <;> simp
  refine wor_main w e f md bt false 0 0 s (e+f) S 0 1 0 1 hT hN hm4 rfl h63 hs2 hF.s63 hng (hide H2) (hide fun W A N C hW g=>?_) (hide fun W A N C A' N' C' hW g g'=>sscale0_m W false A A' N C N' C' 0 1 rfl g g' (hide fun W x1 x2=>rfr_ok false A A' N C N' C' 0 1 (by omega) rfl (by simp) W x1 x2)) (hide fun W A N C A' N' C' hW g g'=>?_) (hide fun W B9 A N C hW g=>?_) (hide fun W A N C A' N' C' hW g g'=>?_)
  ·exact nratio_ok (s:=false) (m:=0) (x:=0) (i:=0) (j:=0) (Or.inl ⟨rfl,rfl,rfl⟩) rfl rfl (no_over (K:=1) (by decide) (by omega)) (no_over (K:=1) (by decide) (by omega)) W A N C g
  ·have:=zero_r hF hm4 s A A' N C N' C' W (hT.kept hW) g g'
   rw [hbt] at this; exact this
  ·have:=rdyadic_zero hF hm4 s A N C W B9 g
   rw [hbt] at this; exact this
  ·have:=zero_p hF hm4 s A A' N C N' C' W (hT.kept hW) g g'
   rw [hbt] at this; exact this
 ·obtain ⟨M,z,xe,hW⟩:=Wo.ex (B:=B) hfin hB.fr_lt hz
  have H2:∀ W:World,Below w.heap.size w W→Calls Tryz.prog 6 #[.agg #[.int .i64 (e:Int),.int .i64 (f:Int)],.int .u64 (bt:Int)] W fun en W'=>(∃ A N C,en = .returned (.tuple #[.agg #[.bool s,.slice A N C,.int .i64 (xe+(z:Int))],.int .i64 0])∧Mine W' W.heap.size A N C (M / 2 ^ z))∧Below W.heap.size W W':=fun W hb=>Value_wo e f B bt ex fr s M z xe W h0 (hide hBB) hB hW (hT.kept hb)
  by_cases h4:4 < md
  ·exact wor_mode w e f md bt s _ _ hT hN h4 (hide H2)
  have hm4:md≤4:=by omega
  obtain ⟨r1,r2,r3⟩:=hW.range h0 (hide hBB)
  have hzl:=hW.zle
  have hodd:=hW.odd.1
  have hml:M / 2 ^ z < 2 ^ (f+1):=Nat.lt_of_le_of_lt (Nat.div_le_self _ _) hW.lt
  have wr:=worth_round hF hB hW (bl_blen _) md
  have f52:=h0.f52
  generalize M / 2 ^ z = m at H2 hodd hml wr
  obtain ⟨X,hX⟩:∃ X,xe+(z:Int) = X:=⟨_,rfl⟩
  rw [hX] at H2 wr
  obtain ⟨i,hi⟩:∃ i:Nat,max X 0 = (i:Int):=⟨(max X 0).toNat,by omega⟩
  obtain ⟨j,hj⟩:∃ j:Nat,max (-X) 0 = (j:Int):=⟨(max (-X) 0).toNat,by omega⟩
  have bu:blen (m * 2 ^ i)≤2100:=Nat.le_trans (mul_pow_len hml) (by omega)
  have bv:blen (1 * 2 ^ j)≤2100:=Nat.le_trans (mul_pow_len (K:=1) (by decide)) (by omega)
  have u0:0 < m * 2 ^ i:=Nat.mul_pos (by omega) (Nat.pow_pos (by omega))
  have v0:0 < 1 * 2 ^ j:=Nat.mul_pos (by omega) (Nat.pow_pos (by omega))
  have huv:Nat.gcd (m * 2 ^ i) (1 * 2 ^ j) = 1:=by
   rw [Nat.one_mul]
   rcases Int.le_total X 0 with q|q
   ·rw [show i = 0 from by omega,Nat.pow_zero,Nat.mul_one]; exact odd_gcd hodd
   ·rw [show j = 0 from by omega,Nat.pow_zero]; exact Nat.gcd_one_right _
  obtain ⟨K2,hK2⟩:∃ K,K = 2100:=⟨_,rfl⟩
  have oV:¬ Over (m * 2 ^ i):=no_over (K:=K2) (blen_lt (by omega)) (by omega)
  have oM:¬ Over (1 * 2 ^ j):=no_over (K:=K2) (blen_lt (by omega)) (by omega)
  clear hK2
  have sd:=sti_dy (p:=m * 2 ^ i) (q:=1 * 2 ^ j) (X:=X) hodd (bl_blen m) v0 (by rw [Nat.one_mul]) (by omega)
  have c3:=fun (W:World) (A:Option Addr) (N C:Nat) (g:Num W A N m)=>nratio_ok (s:=s) (m:=m) (x:=X) (Or.inr ⟨hodd,by omega,by omega⟩) hi hj oV oM W A N C g
  generalize m * 2 ^ i = u at *
  generalize 1 * 2 ^ j = v at *
  obtain ⟨y,y',hy,y0,y1,gy,by1,by2,cS⟩:=scale_tenth s u v u0 v0 huv bu bv
  obtain ⟨_,_,_,_,_,_,M1,K1,X1,s1,c1⟩:=sti_r hF hBB s u v u0 v0 huv (by omega) (by omega)
  obtain ⟨_,_,_,_,_,_,M5,K5,X5,s5,c5⟩:=sti_p hF hBB s y y' y0 y1 gy by1 by2
  obtain ⟨e1,e1'⟩:=s1.same sd B f I md s f52 rfl
  obtain ⟨e5,e5'⟩:=s5.same sd B f I md s f52 (by rw [← hy]; ac_rfl)
  refine wor_main w e f md bt s X m s (e+f) S u v y y' hT hN hm4 rfl h63 hs2 hF.s63 hng (hide H2) (hide fun W A N C hW g=>c3 W A N C g) (hide fun W A N C A' N' C' hW g g'=>cS W A A' N C N' C' g g') (hide fun W A N C A' N' C' hW g g'=>?_) (hide fun W B9 A N C hW g=>?_) (hide fun W A N C A' N' C' hW g g'=>?_)
  ·have:=c1 md hm4 s W A A' N C N' C' (hT.kept hW) g g'
   unfold RV at this
   rw [e1,e1',wr.1,wr.2] at this
   exact this
  ·have:=rdyadic_any hF hBB hm4 s s A N C m (blen m) X W B9 g ⟨hodd,by omega,by omega⟩ (bl_blen m)
   rw [wr.1,wr.2] at this
   exact this
  ·have:=c5 md hm4 s W A A' N C N' C' (hT.kept hW) g g'
   unfold RV at this
   rw [e5,e5',wr.1,wr.2] at this
   exact this
end Go.Proofs.YtbbhlfngjoongaaGreatDoor
