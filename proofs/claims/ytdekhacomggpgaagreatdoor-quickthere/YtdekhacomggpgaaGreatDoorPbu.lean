/- Of what QuickThereRow stands on: SFrac SRatC SOrdA SScaleC. -/
import Derived.Test.YtdekhacomggpgaaGreatDoorPbs
import Derived.Test.YtdekhacomggpgaaGreatDoorPbt
import Derived.Test.YtdekhacomggpgaaGreatDoorPbr
import Derived.Test.YtdekhacomggpgaaGreatDoorPat
import Derived.Test.YtdekhacomggpgaaGreatDoorPbj
import Derived.Test.YtdekhacomggpgaaGreatDoorPbn
import Derived.Test.YtdekhacomggpgaaGreatDoorPbo
namespace Go.Proofs.YtdekhacomggpgaaGreatDoor
open Go.RowKit
def capR (I md:Nat) (s:Bool) (r:Nat):Nat:=if r < I then r else if fth md s false 1 then I else I - 1
theorem capR_mono {I md:Nat} {s:Bool} {r r':Nat} (h:r≤r'):capR I md s r≤capR I md s r':=by
 unfold capR
 by_cases h1:r < I
 ·rw [if_pos h1]
  by_cases h2:r' < I
  ·rw [if_pos h2]; exact h
  ·rw [if_neg h2]; split <;> omega
 ·have h2:¬ r' < I:=by omega
  exact Nat.le_of_eq (by rw [if_neg h1,if_neg h2])
def Kf (B F I md:Nat) (s:Bool) (p d r:Nat):Prop:=(p = 0∧r = 0)∨(0 < p∧∃ (j n b z M K:Nat) (X:Int),Std p d j n b z M K X∧r = capR I md s (rowR B F md s M K X))
theorem Kf.mono {B F I md:Nat} {s:Bool} {p d r p' d' r':Nat} (h:Kf B F I md s p d r) (h':Kf B F I md s p' d' r') (hd':0 < d') (hF:F≤52) (hle:p * d'≤p' * d):r≤r':=by
 rcases h with ⟨_,rfl⟩|⟨h0,j,n,b,z,M,K,X,hs,rfl⟩
 ·exact Nat.zero_le _
 ·rcases h' with ⟨h1,_⟩|⟨h1,j',n',b',z',M',K',X',hs',rfl⟩
  ·rw [h1,Nat.zero_mul] at hle
   have:=Nat.mul_pos h0 hd'
   omega
  ·exact capR_mono (rowR_mono hs hs' hF hle)
theorem rfr_ok (s:Bool) (a b:Option Addr) (n c k l p d:Nat) (hd:0 < d) (hg:Nat.gcd p d = 1) (hs:s = true→0 < p) (W:World) (h1:Num W a n p) (h2:Num W b k d) :
  Calls Tryz.prog 69 #[.agg #[.bool s,.slice a n c,.slice b k l]] W fun e W'=>e = .returned (.int .i64 0)∧Below W.heap.size W W':=by
 have hk:0 < k:=by have:=h2.zero; omega
 cases s
 ·exact rk_ok_f a n c p b k l d W hk h1 h2 hg
 ·exact rk_ok_t a n c p b k l d W hk (by have:=h1.zero; have:=hs rfl; omega) h1 h2 hg
theorem rounded_z {E F S I md:Nat} (h:Fm E F S I) (ng:Bool) (W:World) (B9:Nat) (A:Option Addr) (N C:Nat) (g:Mine W B9 A N C 0) :
  Calls Tryz.prog 55 #[.agg #[.int .i64 E,.int .i64 F],.agg #[.bool false,.slice A N C,.int .i64 0],.bool ng,.int .u8 (md:Int)] W fun e w'=>e = .returned (.tuple #[.int .u64 ((if ng then S else 0:Nat):Int),.int .u8 ((0:Nat):Int),.int .i64 0])∧Below W.heap.size W w':=by
 obtain rfl:=g.num.zero.2 rfl
 exact rounded_nought E F _ md ng h.fo A C W ⟨pow_pos2 _,pow_pos2 _,by rw [← h.hS]; cases ng <;> simp⟩
theorem stand_z {W:World} {fn:FuncId} {av:Array Value} (h:Calls Tryz.prog fn av W fun en w'=>en = .returned (.tuple #[.agg #[.bool false,.slice none 0 0,.int .i64 0],.int .i64 0])∧Below W.heap.size W w') :
  Calls Tryz.prog fn av W fun en w'=>(∃ A N C,en = .returned (.tuple #[.agg #[.bool false,.slice A N C,.int .i64 0],.int .i64 0])∧Mine w' W.heap.size A N C 0)∧Below W.heap.size W w':=
 h.mono fun e W' ⟨h1,h2⟩=>⟨⟨none,0,0,h1,⟨[],rfl,Or.inl ⟨rfl,rfl⟩,Pl.wf_nil,Pl.norm_nil,rfl,by omega⟩⟩,h2⟩
theorem zero_r {E F S I md:Nat} (h:Fm E F S I) (hm:md≤4) (ng:Bool) (a b:Option Addr) (n c k l:Nat) (W:World) (hT:Tb W) (h1:Num W a n 0) (h2:Num W b k 1) :
  Calls Tryz.prog 10 #[.agg #[.int .i64 E,.int .i64 F],.agg #[.bool false,.slice a n c,.slice b k l],.bool ng,.int .u8 (md:Int)] W fun e w'=>e = .returned (.tuple #[.int .u64 ((if ng then S else 0:Nat):Int),.int .u8 ((0:Nat):Int),.int .i64 0])∧Below W.heap.size W w':=by
 refine sratio_w W E F md false ng a b n c k l 0 1 _ 0 h1 h2 (hide fun W' hb q1 q2=>?_)
 exact sscaled_is W' E F md false ng a b n c k l 0 1 0 0 _ 0 h.fo hm (hT.kept hb) q1 q2 (hide fun W x1 x2=>rfr_ok false a b n c k l 0 1 (by omega) rfl (by simp) W x1 x2) (hide fun W _ r1 _=>stand_z (sstand_0 W false a b n c k l r1)) (hide fun W B9 A N C g=>rounded_z h ng W B9 A N C g)
abbrev RV (S I B F md:Nat) (s:Bool) (M K:Nat) (X:Int):Value:=.tuple #[.int .u64 (bitsR S I md s (rowR B F md s M K X):Int),.int .u8 (flagR B F I md s M K X:Int),.int .i64 0]
theorem sti_r {E F S I B:Nat} (h:Fm E F S I) (hB:B = 2 ^ (E - 1) - 1) (s:Bool) (p d:Nat) (h0:0 < p) (hd:0 < d) (hg:Nat.gcd p d = 1) (bp:blen p≤2200) (bd:blen d≤2200) :
  ∃ (D i j n b z M K:Nat) (X:Int),Sti p d D i j n b z M K X∧∀ (md:Nat) (_:md≤4) (ng:Bool) (W:World) (a b:Option Addr) (n c k l:Nat),Tb W→Num W a n p→Num W b k d→Calls Tryz.prog 10 #[.agg #[.int .i64 (E:Int),.int .i64 (F:Int)],.agg #[.bool s,.slice a n c,.slice b k l],.bool ng,.int .u8 (md:Int)] W fun e w'=>e = .returned (RV S I B F md s M K X)∧Below W.heap.size W w':=by
 obtain ⟨K,hK⟩:∃ K,K = 6800:=⟨_,rfl⟩
 have hl:sLift p d≤2200:=by unfold sLift; omega
 have hmo:sMore p d≤2265:=by unfold sMore; omega
 have hall:sAll p d < 2 ^ K:=by
  have e:sAll p d = p * 2 ^ (sLift p d+sMore p d):=by unfold sAll sOne; rw [Nat.pow_add,Nat.mul_assoc]
  rw [e]
  refine Nat.lt_of_lt_of_le (Nat.mul_lt_mul_of_pos_right (bl_blen p).1 (Nat.pow_pos (by omega))) ?_
  rw [← Nat.pow_add]
  exact Nat.pow_le_pow_right (by omega) (by omega)
 have hpos:0 < sAll p d:=Nat.mul_pos (Nat.mul_pos h0 (Nat.pow_pos (by omega))) (Nat.pow_pos (by omega))
 have hdm:=Nat.div_add_mod (sAll p d) d
 have hdl:sAll p d / d≤sAll p d:=Nat.div_le_self _ _
 have a1:0 < sAns p d:=by
  unfold sAns
  split
  ·next e=>
   rw [e] at hdm
   rcases Nat.eq_zero_or_pos (sAll p d / d) with q|q
   ·rw [q] at hdm; omega
   ·omega
  ·omega
 have a2:sAns p d < 2 ^ (K+1):=by
  rw [Nat.pow_succ]
  unfold sAns
  split <;> omega
 obtain ⟨z,⟨q,hq⟩,hz⟩:=tz_ex a1 a2
 refine ⟨_,_,_,_,_,_,_,_,_,(std_of h0 hd hq (bl_blen _)).sti,fun md hm ng W a b n c k l hT h1 h2=>?_⟩
 exact sratio_is h hB hm ng s a b n c k l p d W hT h1 h2 (by omega) hd (by omega) (by omega) (by omega) (by omega) (hide fun W x1 x2=>rfr_ok s a b n c k l p d hd hg (fun _=>h0) W x1 x2) z (2 * q+1) (blen (2 * q+1)) _ ⟨q,hq⟩ (by omega) (by rw [hq,Nat.mul_div_cancel_left _ (Nat.pow_pos (by omega))]) rfl (bl_blen _)
end Go.Proofs.YtdekhacomggpgaaGreatDoor
