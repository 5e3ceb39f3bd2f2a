/- Of what RatioOrderRow stands on: UpOver UpDown LowBig RefBits Bad. -/
import Derived.Test.YtfhmbnnlcjdblaaGreatPag
import Derived.Test.YtfhmbnnlcjdblaaGreatPad
import Derived.Test.YtfhmbnnlcjdblaaGreatPab
namespace Go.Proofs.YtfhmbnnlcjdblaaGreat
open Go.RowKit
set_option maxHeartbeats 400000
theorem check_num (a:Option Addr) (n cap m:Nat) (w:World) (h:Num w a n m) :
  Calls Tryz.prog 28 #[.agg #[.slice a n cap]] w fun e w'=>e = .returned (.int .i64 0)∧Below w.heap.size w w':=by
 obtain ⟨xs,hn,hl,hw,hN,hv,hb⟩:=h
 have:=check_any a cap xs w (by omega) hl
 rw [hn,chk_ok (by omega) hN] at this
 exact this
theorem Mine.cap {w:World} {base:Nat} {a:Option Addr} {n cap m:Nat} (h:Mine w base a n cap m):n≤cap∧cap≤9223372036854775807:=by
 obtain ⟨xs,hn,ho,_⟩:=h
 obtain ⟨a',c',e,h1,h2,_⟩:=ho.lim
 injection e with e1 e2 e3
 omega
theorem bl_ex (m:Nat):∃ j,Bl m j:=by
 induction m using Nat.strongRecOn with
 | ind m ih=>
  by_cases h:m = 0
  ·exact ⟨0,by subst h; exact bl_zero⟩
  ·obtain ⟨j,h1,h2⟩:=ih (m / 2) (by omega)
   refine ⟨j+1,by rw [Nat.pow_succ]; omega,Or.inr ?_⟩
   rw [Nat.add_sub_cancel]
   rcases h2 with h2|h2
   ·subst h2; simp; omega
   ·by_cases hj:j = 0
    ·subst hj; simp; omega
    ·have:2 ^ j = 2 ^ (j - 1) * 2:=by rw [← Nat.pow_succ]; congr 1; omega
     omega
theorem low_big (a:Option Addr) (n cap m:Nat) (w:World) (h:Num w a n m) (hn2:2 < n) :
  Calls Tryz.prog 58 #[.agg #[.slice a n cap]] w fun e w'=>e = .returned (.tuple #[.int .u64 0,.bool false])∧Below w.heap.size w w':=by
 have HK:=hide (fun (o1:Obj)=>check_num a n cap m (w.alloc o1) (h.alloc o1))
 clear h
 go_enter Tryz.func58,Tryz.ntmps58
 go_wp2_with fail
 refine (unhide HK _).mono ?_
 rintro e w1 ⟨rfl,hb1⟩
 obtain ⟨hc1,hf1⟩:=bcell hb1
 go_wp2
 go_ret2
 exact ⟨rfl,gr_trans (gr_alloc _ _) hb1⟩
end Go.Proofs.YtfhmbnnlcjdblaaGreat
