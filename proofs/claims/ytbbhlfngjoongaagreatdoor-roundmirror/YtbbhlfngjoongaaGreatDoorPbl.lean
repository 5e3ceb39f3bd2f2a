/- Of what RoundMirrorRow stands on: SMirLaw. -/
import Derived.Test.YtbbhlfngjoongaaGreatDoorPbj
import Derived.Test.YtbbhlfngjoongaaGreatDoorPbk
namespace Go.Proofs.YtbbhlfngjoongaaGreatDoor
open Go.RowKit
theorem xor_bits {S I t md r:Nat} (hm:md≤4) (hs:S = 2 ^ t) (hI:I < S) (hB:S≤9223372036854775808) (s:Bool):Go.bits .xor .u64 (bitsR S I md s r:Int) (S:Int) = (bitsR S I (mir md) (!s) r:Int):=by
 have e1:bitsR S I md s r = (if s then S else 0)+capR I md s r:=rfl
 have e2:bitsR S I (mir md) (!s) r = (if s then 0 else S)+capR I md s r:=by
  unfold bitsR capR
  rw [fth_mir hm]
  cases s <;> simp
 rw [e1,e2]
 exact xor_mir hs (Nat.lt_of_le_of_lt capR_le hI) hB s
theorem roundMirror_any (E F:Int) (s:Bool) (a:Option Addr) (n c:Nat) (xs:List Nat) (b:Option Addr) (k l:Nat) (ys:List Nat) (md:Nat) (w:World) (hT:Tb w) (hN:Nb5 w)
  (hn:xs.length = n) (hnb:n≤9223372036854775807) (hl:Lim w a xs) (hw:Pl.Wf xs) (hk:ys.length = k) (hkb:k≤9223372036854775807) (hly:Lim w b ys) (hwy:Pl.Wf ys) :
  Calls Tryz.prog 4 #[.agg #[.int .i64 E,.int .i64 F],.agg #[.bool s,.slice a n c,.slice b k l],.int .u8 (md:Int)] w fun e w'=>e = .returned (.bool true)∧Below w.heap.size w w':=by
 rcases asked_any E F s a b n c k l xs ys w hn hnb hl hw hk hkb hly hwy with h1|⟨⟨e,f,rfl,rfl,hfo⟩,p,d,gN,gD,hd,hg,hs,bp,bd,_,ok1⟩
 ·exact mir_no w E F md s a b n c k l hT hN (hide h1)
 by_cases hm:4 < md
 ·exact mir_mode w e f md s a b n c k l hT hN hm (hide ok1)
 have hm4:md≤4:=by omega
 have hf:Fm e f (2 ^ (f+e)) ((2 ^ e - 1) * 2 ^ f):=⟨hfo,rfl,rfl⟩
 generalize 2 ^ (f+e) = S at hf
 generalize (2 ^ e - 1) * 2 ^ f = I at hf
 have hs2:S = 2 ^ (e+f):=by rw [Nat.add_comm]; exact hf.hS
 have h63:e+f≤63:=by have:=hfo.sum; omega
 have main:∃ (q:Bool) (u v ba bb bd fa fd:Nat),Go.bits .xor .u64 (ba:Int) (S:Int) = (bb:Int) ∧
   (∀ W:World,Below w.heap.size w W→Calls Tryz.prog 13 #[.agg #[.bool s,.slice a n c,.slice b k l]] W fun en W'=>(∃ A N C A' N' C',en = .returned (.tuple #[.agg #[.bool q,.slice A N C,.slice A' N' C'],.int .i64 0])∧Mine W' W.heap.size A N C p∧Mine W' W.heap.size A' N' C' d)∧Below W.heap.size W W') ∧
   (∀ W:World,Below w.heap.size w W→Calls Tryz.prog 8 #[.agg #[.bool s,.slice a n c,.slice b k l],.int .u32 10,.int .i64 1] W fun en W'=>(∃ A N C A' N' C',en = .returned (.tuple #[.agg #[.bool s,.slice A N C,.slice A' N' C'],.int .i64 0])∧Mine W' W.heap.size A N C u∧Mine W' W.heap.size A' N' C' v)∧Below W.heap.size W W') ∧
   (∀ W:World,Below w.heap.size w W→Calls Tryz.prog 9 #[.agg #[.int .i64 (e:Int),.int .i64 (f:Int)],.agg #[.bool s,.slice a n c,.slice b k l],.bool false,.int .u8 (md:Int)] W fun en W'=>en = .returned (.tuple #[.int .u64 (ba:Int),.int .u8 (fa:Int),.int .i64 0])∧Below W.heap.size W W') ∧
   (∀ (W:World) (A:Option Addr) (N C:Nat) (A':Option Addr) (N' C':Nat),Below w.heap.size w W→Num W A N p→Num W A' N' d→Calls Tryz.prog 9 #[.agg #[.int .i64 (e:Int),.int .i64 (f:Int)],.agg #[.bool q,.slice A N C,.slice A' N' C'],.bool true,.int .u8 (mir md:Int)] W fun en W'=>en = .returned (.tuple #[.int .u64 (bb:Int),.int .u8 (fa:Int),.int .i64 0])∧Below W.heap.size W W') ∧
   (∀ (W:World) (A:Option Addr) (N C:Nat) (A':Option Addr) (N' C':Nat),Below w.heap.size w W→Num W A N u→Num W A' N' v→Calls Tryz.prog 11 #[.agg #[.int .i64 (e:Int),.int .i64 (f:Int)],.agg #[.bool s,.slice A N C,.slice A' N' C'],.int .i64 (-1),.bool false,.int .u8 (md:Int)] W fun en W'=>en = .returned (.tuple #[.int .u64 (ba:Int),.int .u8 (fa:Int),.int .i64 0])∧Below W.heap.size W W') ∧
   (∀ (W:World) (A:Option Addr) (N C:Nat) (A':Option Addr) (N' C':Nat),Below w.heap.size w W→Num W A N u→Num W A' N' v→Calls Tryz.prog 9 #[.agg #[.int .i64 (e:Int),.int .i64 (f:Int)],.agg #[.bool s,.slice A N C,.slice A' N' C'],.bool false,.int .u8 (md:Int)] W fun en W'=>en = .returned (.tuple #[.int .u64 (bd:Int),.int .u8 (fd:Int),.int .i64 0])∧Below W.heap.size W W') ∧
   (∀ W:World,Below w.heap.size w W→Calls Tryz.prog 11 #[.agg #[.int .i64 (e:Int),.int .i64 (f:Int)],.agg #[.bool s,.slice a n c,.slice b k l],.int .i64 1,.bool false,.int .u8 (md:Int)] W fun en W'=>en = .returned (.tuple #[.int .u64 (bd:Int),.int .u8 (fd:Int),.int .i64 0])∧Below W.heap.size W W'):=by
  rcases Nat.eq_zero_or_pos p with h0|h0
  ·obtain rfl:s = false:=by
    cases s
    ·rfl
    ·have:=hs rfl; omega
   subst h0
   obtain rfl:d = 1:=by rw [Nat.gcd_zero_left] at hg; exact hg
   have HC:=hide fun (W:World) (x1:Num W a n 0) (x2:Num W b k 1)=>rfr_ok false a b n c k l 0 1 hd hg hs W x1 x2
   refine ⟨false,0,1,(if false then S else 0),(if true then S else 0),(if false then S else 0),0,0,?_,fun W hW=>sneg_z W a b n c k l 0 1 rfl (gN.kept hW) (gD.kept hW) HC,fun W hW=>sscale0_p W false a b n c k l 0 1 rfl (gN.kept hW) (gD.kept hW) HC,fun W hW=>zero_r hf hm4 false a b n c k l W (hT.kept hW) (gN.kept hW) (gD.kept hW),fun W A N C A' N' C' hW x1 x2=>zero_r hf (mir_le hm4) true A A' N C N' C' W (hT.kept hW) x1 x2,fun W A N C A' N' C' hW x1 x2=>zero_m hf hm4 false A A' N C N' C' W (hT.kept hW) x1 x2,fun W A N C A' N' C' hW x1 x2=>zero_r hf hm4 false A A' N C N' C' W (hT.kept hW) x1 x2,fun W hW=>zero_p hf hm4 false a b n c k l W (hT.kept hW) (gN.kept hW) (gD.kept hW)⟩
   have:=xor_mir hs2 hf.pos hf.s63 false
   simpa using this
  ·obtain ⟨u,v,huv,u0,v0,guv,bu,bv,cS⟩:=scale_ten s p d h0 hd hg (by omega) (by omega)
   obtain ⟨_,_,_,_,_,_,M1,K1,X1,s1,c1⟩:=sti_r hf rfl s p d h0 hd hg (by omega) (by omega)
   obtain ⟨_,_,_,_,_,_,M2,K2,X2,s2,c2⟩:=sti_r hf rfl (!s) p d h0 hd hg (by omega) (by omega)
   obtain ⟨_,_,_,_,_,_,M3,K3,X3,s3,c3⟩:=sti_m hf rfl s u v u0 v0 guv bu bv
   obtain ⟨_,_,_,_,_,_,M4,K4,X4,s4,c4⟩:=sti_r hf rfl s u v u0 v0 guv bu bv
   obtain ⟨_,_,_,_,_,_,M5,K5,X5,s5,c5⟩:=sti_p hf rfl s p d h0 hd hg (by omega) (by omega)
   obtain ⟨B,hB⟩:∃ B,2 ^ (e - 1) - 1 = B:=⟨_,rfl⟩
   rw [hB] at c1 c2 c3 c4 c5
   obtain ⟨e2,e2'⟩:=s2.same s1 B f I (mir md) (!s) hfo.f52 rfl
   rw [rowR_mir hm4 s B f M1 K1 X1] at e2
   rw [flagR_mir hm4 s B f I M1 K1 X1] at e2'
   obtain ⟨e3,e3'⟩:=s3.same s1 B f I md s hfo.f52 (by rw [huv]; ac_rfl)
   obtain ⟨e5,e5'⟩:=s5.same s4 B f I md s hfo.f52 huv.symm
   have HC:=fun (W:World) (x1:Num W a n p) (x2:Num W b k d)=>rfr_ok s a b n c k l p d hd hg hs W x1 x2
   refine ⟨!s,u,v,bitsR S I md s (rowR B f md s M1 K1 X1),bitsR S I (mir md) (!s) (rowR B f md s M1 K1 X1),bitsR S I md s (rowR B f md s M4 K4 X4),flagR B f I md s M1 K1 X1,flagR B f I md s M4 K4 X4,xor_bits hm4 hs2 hf.lt hf.s63 s,fun W hW=>?_,fun W hW=>cS W a b n c k l (gN.kept hW) (gD.kept hW),fun W hW=>c1 md hm4 false W a b n c k l (hT.kept hW) (gN.kept hW) (gD.kept hW),fun W A N C A' N' C' hW x1 x2=>?_,fun W A N C A' N' C' hW x1 x2=>?_,fun W A N C A' N' C' hW x1 x2=>c4 md hm4 false W A A' N C N' C' (hT.kept hW) x1 x2,fun W hW=>?_⟩
   ·cases s
    ·exact sneg_f W a b n c k l p d (by omega) (gN.kept hW) (gD.kept hW) (hide HC)
    ·exact sneg_t W a b n c k l p d (gN.kept hW) (gD.kept hW) (hide HC)
   ·have:=c2 (mir md) (mir_le hm4) true W A A' N C N' C' (hT.kept hW) x1 x2
    unfold RV at this
    rw [e2,e2'] at this
    exact this
   ·have:=c3 md hm4 false W A A' N C N' C' (hT.kept hW) x1 x2
    unfold RV at this
    rw [e3,e3'] at this
    exact this
   ·have:=c5 md hm4 false W a b n c k l (hT.kept hW) (gN.kept hW) (gD.kept hW)
    unfold RV at this
    rw [e5,e5'] at this
    exact this
 obtain ⟨q,u,v,ba,bb,bd,fa,fd,hx,c2,c3,c4,c5,c6,c7,c8⟩:=main
 have hc:md = 0∨md = 1∨md = 2∨md = 3∨md = 4:=by omega
 rcases hc with rfl|rfl|rfl|rfl|rfl
 ·exact mir_0 w e f s a b n c k l q (e+f) S p d u v ba bb bd fa fd hT hN rfl h63 hs2 hf.s63 hx (hide ok1) (hide c2) (hide c3) (hide c4) (hide c5) (hide c6) (hide c7) (hide c8)
 ·exact mir_1 w e f s a b n c k l q (e+f) S p d u v ba bb bd fa fd hT hN rfl h63 hs2 hf.s63 hx (hide ok1) (hide c2) (hide c3) (hide c4) (hide c5) (hide c6) (hide c7) (hide c8)
 ·exact mir_2 w e f s a b n c k l q (e+f) S p d u v ba bb bd fa fd hT hN rfl h63 hs2 hf.s63 hx (hide ok1) (hide c2) (hide c3) (hide c4) (hide c5) (hide c6) (hide c7) (hide c8)
 ·exact mir_3 w e f s a b n c k l q (e+f) S p d u v ba bb bd fa fd hT hN rfl h63 hs2 hf.s63 hx (hide ok1) (hide c2) (hide c3) (hide c4) (hide c5) (hide c6) (hide c7) (hide c8)
 ·exact mir_4 w e f s a b n c k l q (e+f) S p d u v ba bb bd fa fd hT hN rfl h63 hs2 hf.s63 hx (hide ok1) (hide c2) (hide c3) (hide c4) (hide c5) (hide c6) (hide c7) (hide c8)
end Go.Proofs.YtbbhlfngjoongaaGreatDoor
