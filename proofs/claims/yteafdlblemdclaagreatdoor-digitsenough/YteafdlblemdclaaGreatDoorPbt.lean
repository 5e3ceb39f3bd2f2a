/- Of what DigitsEnoughRow stands on: SScaleC. -/
import Derived.Test.YteafdlblemdclaaGreatDoorPbm
import Derived.Test.YteafdlblemdclaaGreatDoorPbh
import Derived.Test.YteafdlblemdclaaGreatDoorPad
import Derived.Test.YteafdlblemdclaaGreatDoorPbb
import Derived.Test.YteafdlblemdclaaGreatDoorPbs
namespace Go.Proofs.YteafdlblemdclaaGreatDoor
open Go.RowKit
theorem rfr_ok (s:Bool) (a b:Option Addr) (n c k l p d:Nat) (hd:0 < d) (hg:Nat.gcd p d = 1) (hs:s = true→0 < p) (W:World) (h1:Num W a n p) (h2:Num W b k d) :
  Calls Tryz.prog 115 #[.agg #[.bool s,.slice a n c,.slice b k l]] W fun e W'=>e = .returned (.int .i64 0)∧Below W.heap.size W W':=by
 have hk:0 < k:=by have:=h2.zero; omega
 cases s
 ·exact rk_ok_f a n c p b k l d W hk h1 h2 hg
 ·exact rk_ok_t a n c p b k l d W hk (by have:=h1.zero; have:=hs rfl; omega) h1 h2 hg
theorem rounded_z {E F S I md:Nat} (h:Fm E F S I) (ng:Bool) (W:World) (B9:Nat) (A:Option Addr) (N C:Nat) (g:Mine W B9 A N C 0) :
  Calls Tryz.prog 113 #[.agg #[.int .i64 E,.int .i64 F],.agg #[.bool false,.slice A N C,.int .i64 0],.bool ng,.int .u8 (md:Int)] W fun e w'=>e = .returned (.tuple #[.int .u64 ((if ng then S else 0:Nat):Int),.int .u8 ((0:Nat):Int),.int .i64 0])∧Below W.heap.size W w':=by
 obtain rfl:=g.num.zero.2 rfl
 exact rounded_nought E F _ md ng h.fo A C W ⟨pow_pos2 _,pow_pos2 _,by rw [← h.hS]; cases ng <;> simp⟩
theorem stand_z {W:World} {fn:FuncId} {av:Array Value} (h:Calls Tryz.prog fn av W fun en w'=>en = .returned (.tuple #[.agg #[.bool false,.slice none 0 0,.int .i64 0],.int .i64 0])∧Below W.heap.size W w') :
  Calls Tryz.prog fn av W fun en w'=>(∃ A N C,en = .returned (.tuple #[.agg #[.bool false,.slice A N C,.int .i64 0],.int .i64 0])∧Mine w' W.heap.size A N C 0)∧Below W.heap.size W w':=
 h.mono fun e W' ⟨h1,h2⟩=>⟨⟨none,0,0,h1,⟨[],rfl,Or.inl ⟨rfl,rfl⟩,Pl.wf_nil,Pl.norm_nil,rfl,by omega⟩⟩,h2⟩
theorem zero_r {E F S I md:Nat} (h:Fm E F S I) (hm:md≤4) (ng:Bool) (a b:Option Addr) (n c k l:Nat) (W:World) (hT:Tb W) (h1:Num W a n 0) (h2:Num W b k 1) :
  Calls Tryz.prog 50 #[.agg #[.int .i64 E,.int .i64 F],.agg #[.bool false,.slice a n c,.slice b k l],.bool ng,.int .u8 (md:Int)] W fun e w'=>e = .returned (.tuple #[.int .u64 ((if ng then S else 0:Nat):Int),.int .u8 ((0:Nat):Int),.int .i64 0])∧Below W.heap.size W w':=by
 refine sratio_w W E F md false ng a b n c k l 0 1 _ 0 h1 h2 (hide fun W' hb q1 q2=>?_)
 exact sscaled_is W' E F md false ng a b n c k l 0 1 0 0 _ 0 h.fo hm (hT.kept hb) q1 q2 (hide fun W x1 x2=>rfr_ok false a b n c k l 0 1 (by omega) rfl (by simp) W x1 x2) (hide fun W _ r1 _=>stand_z (sstand_0 W false a b n c k l r1)) (hide fun W B9 A N C g=>rounded_z h ng W B9 A N C g)
end Go.Proofs.YteafdlblemdclaaGreatDoor
