/- Of what QuickSureRow stands on: BookG UpOver UpDown RefBits. -/
import Derived.Test.YtohjmjlfmloiaaaDoorPan
import Derived.Test.YtohjmjlfmloiaaaDoorPao
import Derived.Test.YtohjmjlfmloiaaaDoorPaa
import Derived.Maps.AppendAt
import Derived.Laws.OwnMore
import Derived.Test.YtohjmjlfmloiaaaDoorPaf
namespace Go.Proofs.YtohjmjlfmloiaaaDoor
open Go.RowKit
def wst (W W1 W2 W3:World) (b6 b7 b10:Bool):World:=if b10 = true then W3 else if b7 = true then W2 else if b6 = true then W1 else W
structure RA (W W1 W2 W3:World) (p f:Nat) (vf val v':Value) (b0 b1 b2 b3 b4 b5 b6 b7 b8 b9 b10:Bool) (v0 v1 v2 v3 v4 v5 v6 v7 v8 v9:Value) (w':World):Prop where
 f0:b0 = true→v0 = .pointer (some ⟨p,0,none⟩)
 f1:b1 = true→v1 = .pointer (some ⟨p,0,none⟩)
 f2:b2 = true→v2 = .pointer (some ⟨p,0,none⟩)
 f3:b3 = true→v3 = .pointer (some ⟨p,f,none⟩)
 f4:b4 = true→v4 = vf
 f5:b5 = true→v5 = .agg #[val]
 f6:b6 = true→v6 = .slice (some ⟨W.heap.size,0,none⟩) 1 1
 f7:b7 = true→v7 = v'
 f8:b8 = true→v8 = .pointer (some ⟨p,0,none⟩)
 f9:b9 = true→v9 = .pointer (some ⟨p,f,none⟩)
 m7:b7 = true→b6 = true
 m9:b9 = true→b8 = true
 m10:b10 = true→b0 = true∧b1 = true∧b2 = true∧b3 = true∧b4 = true∧b5 = true∧b6 = true∧b7 = true∧b8 = true∧b9 = true
 st:w' = wst W W1 W2 W3 b6 b7 b10
theorem RA.cells {W W1 W2 W3:World} {p f pa:Nat} {vf val v':Value} {b0 b1 b2 b3 b4 b5 b6 b7 b8 b9 b10:Bool} {v0 v1 v2 v3 v4 v5 v6 v7 v8 v9:Value} {w':World} (h:RA W W1 W2 W3 p f vf val v' b0 b1 b2 b3 b4 b5 b6 b7 b8 b9 b10 v0 v1 v2 v3 v4 v5 v6 v7 v8 v9 w') (h10:b10 = false)
  (c0:W.cell? ⟨p,f,none⟩ = some vf∧W.cell? ⟨pa,0,none⟩ = some val) (c1:W1.cell? ⟨p,f,none⟩ = some vf∧W1.cell? ⟨pa,0,none⟩ = some val) (c2:W2.cell? ⟨p,f,none⟩ = some vf∧W2.cell? ⟨pa,0,none⟩ = some val) :
  w'.cell? ⟨p,f,none⟩ = some vf∧w'.cell? ⟨pa,0,none⟩ = some val:=by
 rw [h.st,h10]
 unfold wst
 simp only [Bool.false_eq_true,if_false]
 by_cases h7:b7 = true
 ·rw [if_pos h7]; exact c2
 ·rw [if_neg h7]
  by_cases h6:b6 = true
  ·rw [if_pos h6]; exact c1
  ·rw [if_neg h6]; exact c0
theorem own_below {w w':World} {base n B:Nat} {t:TypeId} {v:Value} {xs:List Value} (h:w.ownsRow base t 1 v n xs) (hb:Below B w w') (hB:w.heap.size≤B:=by exact Nat.le_refl _):w'.ownsRow base t 1 v n xs:=by
 obtain ⟨h1,h2|⟨g,cap,cur,e,hg,hh,r⟩⟩:=h
 ·exact ⟨h1,Or.inl h2⟩
 ·have hlt:g < w.heap.size:=by
   by_cases hlt:g < w.heap.size
   ·exact hlt
   ·rw [Array.getElem?_eq_none (by omega)] at hh; cases hh
  exact ⟨h1,Or.inr ⟨g,cap,cur,e,hg,by rw [hb.block g (by omega)]; exact hh,r⟩⟩
structure Fr (w w':World) (p:Nat) (r1 r2:Option Nat):Prop where
 os:w'.os = w.os
 tape:w'.tape = w.tape
 output:w'.output = w.output
 size:w.heap.size≤w'.heap.size
 block:∀ k,k < w.heap.size→k≠p→some k≠r1→some k≠r2→w'.heap[k]? = w.heap[k]?
theorem Fr.drew {w w':World} {p:Nat} {r1 r2:Option Nat} (h:Fr w w' p r1 r2):Fr w w'.drew p r1 r2:=⟨h.os,h.tape,h.output,h.size,h.block⟩
theorem Mine.cap {w:World} {base:Nat} {a:Option Addr} {n cap m:Nat} (h:Mine w base a n cap m):n≤cap∧cap≤9223372036854775807:=by
 obtain ⟨xs,hn,ho,_⟩:=h
 obtain ⟨a',c',e,h1,h2,_⟩:=ho.lim
 injection e with e1 e2 e3
 omega
end Go.Proofs.YtohjmjlfmloiaaaDoor
