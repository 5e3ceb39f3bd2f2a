/- Of what RoundSidesRow stands on: ExLimit ExAddO ExSum NrSum NrRun NrMid NrFin ExAlive. -/
import Derived.Test.YtfjegmlpkiaifaaGreatDoorPba
import Derived.Test.YtfjegmlpkiaifaaGreatDoorPbb
import Derived.Test.YtfjegmlpkiaifaaGreatDoorPaw
import Derived.Test.YtfjegmlpkiaifaaGreatDoorPab
import Derived.Test.YtfjegmlpkiaifaaGreatDoorPaf
import Derived.Test.YtfjegmlpkiaifaaGreatDoorPag
namespace Go.Proofs.YtfjegmlpkiaifaaGreatDoor
open Go.RowKit
def OkD (s:Bool) (m:Nat) (x:Int):Prop:=(m = 0∧s = false∧x = 0)∨(m % 2 = 1∧-1073741824≤x∧x≤1073741824)
theorem mine_none (w:World) (base:Nat):Mine w base none 0 0 0:=⟨[],rfl,Or.inl ⟨rfl,rfl⟩,Pl.wf_nil,Pl.norm_nil,rfl,by omega⟩
def Rn (w:World) (p k:Nat):Prop:=∃ cs t,w.heap[p]? = some (.cells cs t (0,0))∧cs[k]? = some (.int .i64 0)
theorem Rn.kept {w w':World} {p k:Nat} (h:Rn w p k) (hb:Below w.heap.size w w'):Rn w' p k:=by
 obtain ⟨cs,t,h1,h2⟩:=h
 exact ⟨cs,t,by rw [hb.block _ (block_lt h1)]; exact h1,h2⟩
theorem Rn.cell {w:World} {p k:Nat} (h:Rn w p k):w.cell? ⟨p,k,none⟩ = some (.int .i64 0)∧w.frozen? ⟨p,k,none⟩ = false:=by
 obtain ⟨cs,t,h1,h2⟩:=h
 exact ⟨by rw [cell_of_row w p k _ _ _ h1]; exact h2,frozen_of_row w p k _ _ h1⟩
theorem Rn.still {w:World} {p k:Nat} (h:Rn w p k):w.setCell ⟨p,k,none⟩ (.int .i64 0) = w:=by
 obtain ⟨cs,t,h1,h2⟩:=h
 exact setCell_still h1 h2
theorem keep_0 (p k:Nat) (w:World) (h:Rn w p k) :
  Calls Tryz.prog 38 #[.pointer (some ⟨p,k,none⟩),.int .i64 0] w fun en w'=>en = .returned (.tuple #[])∧Below w.heap.size w w':=by
 obtain ⟨h1,h2⟩:=h.cell
 have h3:=h.still
 go_enter Tryz.func38,Tryz.ntmps38
 go_wp2
 go_end0
 exact ⟨rfl,Below.refl _ _⟩
def Vals (E F b:Int) (s:Bool) (m:Nat) (x:Int):Prop:=∀ W:World,Tb W→Calls Tryz.prog 22 #[.agg #[.int .i64 E,.int .i64 F],.int .u64 b] W fun e w'=>(∃ A N C,e = .returned (.tuple #[.agg #[.bool s,.slice A N C,.int .i64 x],.int .i64 0])∧Mine w' W.heap.size A N C m)∧Below W.heap.size W w'
theorem mine_caps {w:World} {B:Nat} {a:Option Addr} {n c m:Nat} (h:Mine w B a n c m):n≤c∧c≤9223372036854775807:=by
 obtain ⟨xs,hn,ho,_⟩:=h
 obtain ⟨a',c',e,h1,h2,_⟩:=ho.lim
 cases e
 exact ⟨by omega,h2⟩
theorem vals_zero {E F B b:Nat} {s:Bool} (h0:Fo E F) (HB:Hid (B = 2 ^ (E - 1) - 1)) (hB:Bt E F b s 0 0):Vals E F b false 0 0:=fun W _=>by
 refine (Value_zero E F B b s W h0 HB hB).mono ?_
 rintro e w' ⟨rfl,hb⟩
 exact ⟨⟨none,0,0,rfl,mine_none _ _⟩,hb⟩
theorem vals_wo {E F B b ex fr M z:Nat} {s:Bool} {xe:Int} (h0:Fo E F) (HB:Hid (B = 2 ^ (E - 1) - 1)) (hB:Bt E F b s ex fr) (hW:Wo E F B ex fr M z xe):Vals E F b s (M / 2 ^ z) (xe+(z:Int)):=fun W hT=>
 Value_wo E F B b ex fr s M z xe W h0 HB hB hW hT
theorem nratio_ok {s:Bool} {m:Nat} {x:Int} (hA:OkD s m x) {i j:Nat} (hi:max x 0 = (i:Int)) (hj:max (-x) 0 = (j:Int)) (hV:¬ Over (m * 2 ^ i)) (hM:¬ Over (1 * 2 ^ j)) (W:World) (A:Option Addr) (N C:Nat) (g:Num W A N m) :
  Calls Tryz.prog 23 #[.agg #[.bool s,.slice A N C,.int .i64 x]] W fun e w'=>(∃ A N C A' N' C',e = .returned (.tuple #[.agg #[.bool s,.slice A N C,.slice A' N' C'],.int .i64 0])∧Mine w' W.heap.size A N C (m * 2 ^ i)∧Mine w' W.heap.size A' N' C' (1 * 2 ^ j))∧Below W.heap.size W w':=by
 have hx:-1073741824≤x∧x≤1073741824:=by
  rcases hA with ⟨_,_,h⟩|⟨_,h⟩
  ·omega
  ·exact h
 have up:∀ {u t:Nat},¬ Over (u * 2 ^ t)→t < 9223372036854775808→∀ (W:World) (A:Option Addr) (N C:Nat),Num W A N u→Calls Tryz.prog 59 #[.agg #[.slice A N C],.int .i64 (t:Int)] W fun en W'=>(∃ a n c,en = .returned (.tuple #[.agg #[.slice a n c],.int .i64 0])∧Mine W' W.heap.size a n c (u * 2 ^ t))∧Below W.heap.size W W':=fun hn ht W A N C g=>by
  refine (up_any A N C _ _ W g ht).mono ?_
  rintro e w' ⟨h1,hb⟩
  rcases h1 with h1|⟨_,h1⟩
  ·exact ⟨h1,hb⟩
  ·exact absurd h1 hn
 exact xr_ok2 W s A N C m x i j _ _ g hx hi hj (hide fun W A N C g=>dcheck_dy s A N C m x W ⟨g,hA⟩) (hide (up hV (by omega))) (hide (up hM (by omega)))
end Go.Proofs.YtfjegmlpkiaifaaGreatDoor
