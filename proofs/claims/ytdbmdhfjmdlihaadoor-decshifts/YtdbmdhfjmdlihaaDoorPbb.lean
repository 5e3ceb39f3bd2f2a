/- Of what DecShiftsRow stands on: Gcd. -/
import Derived.Test.YtdbmdhfjmdlihaaDoorPba
import Derived.Test.YtdbmdhfjmdlihaaDoorPao
import Derived.Test.YtdbmdhfjmdlihaaDoorPaj
import Derived.Test.YtdbmdhfjmdlihaaDoorPaa
import Derived.Deep.RegionWith
namespace Go.Proofs.YtdbmdhfjmdlihaaDoor
open Go.RowKit
theorem Mine.blt {w:World} {base n c m g:Nat} {a:Option Addr} (h:Mine w base a n c m) (ha:a = some ⟨g,0,none⟩):g < w.heap.size:=by
 obtain ⟨xs,hn,ho,_⟩:=h
 rcases ho with ⟨e,_⟩|⟨g',cap,cur,e,hg,hh,_⟩
 ·injection e with e1 e2 e3; rw [ha] at e1; cases e1
 ·injection e with e1 e2 e3
  rw [ha] at e1
  injection e1 with e1
  injection e1 with e1
  subst e1
  by_cases hlt:g < w.heap.size
  ·exact hlt
  ·rw [Array.getElem?_eq_none (by omega)] at hh; cases hh
def NumV (w:World) (base:Nat) (v:Value) (n m:Nat):Prop:=∃ a c,v = .slice a n c∧Mine w base a n c m
theorem NumV.kept {w w':World} {base n m:Nat} {v:Value} (h:NumV w base v n m) (hb:Below w.heap.size w w'):NumV w' base v n m:=by
 obtain ⟨a,c,rfl,h⟩:=h
 exact ⟨a,c,rfl,h.kept hb⟩
def ApV (v v':Value):Prop:=∀ a n c a' n' c',v = .slice a n c→v' = .slice a' n' c'→Apart a a'
structure RG (W w:World) (a b:Option Addr) (n cap n' cap' m m' pa pb:Nat) (b0 b1 b2 b3 b4 b5 b6 b7:Bool) (v7 v8 v18 v19 v20 v21 v22 v23:Value):Prop where
 bel:Below W.heap.size W w
 f0:b0 = true→v18 = .pointer (some ⟨pa,0,none⟩)
 f1:b1 = true→v19 = .slice a n cap
 f2:b2 = true→NumV w W.heap.size v20 n m
 f3:b3 = true→v21 = .pointer (some ⟨pb,0,none⟩)
 f4:b4 = true→v22 = .slice b n' cap'
 f5:b5 = true→NumV w W.heap.size v23 n' m'
 ap:b2 = true→b5 = true→ApV v20 v23
 f6:b6 = true→b2 = true∧v7 = v20
 f7:b7 = true→b5 = true∧v8 = v23
theorem RG.kept {W w w':World} {a b:Option Addr} {n cap n' cap' m m' pa pb:Nat} {b0 b1 b2 b3 b4 b5 b6 b7:Bool} {v7 v8 v18 v19 v20 v21 v22 v23:Value}
  (h:RG W w a b n cap n' cap' m m' pa pb b0 b1 b2 b3 b4 b5 b6 b7 v7 v8 v18 v19 v20 v21 v22 v23) (hb:Below w.heap.size w w'):RG W w' a b n cap n' cap' m m' pa pb b0 b1 b2 b3 b4 b5 b6 b7 v7 v8 v18 v19 v20 v21 v22 v23:=
 ⟨gr_trans h.bel hb,h.f0,h.f1,fun e=>(h.f2 e).kept hb,h.f3,h.f4,fun e=>(h.f5 e).kept hb,h.ap,h.f6,h.f7⟩
end Go.Proofs.YtdbmdhfjmdlihaaDoor
