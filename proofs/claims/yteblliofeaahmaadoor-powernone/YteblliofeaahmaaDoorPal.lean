/- Of what PowerNoneRow stands on: BookG UpOver UpDown RefBits Pow Bad LowBig Alive. -/
import Derived.Test.YteblliofeaahmaaDoorPaj
import Derived.Test.YteblliofeaahmaaDoorPak
import Derived.Test.YteblliofeaahmaaDoorPaa
import Derived.Maps.AppendAt
import Derived.Laws.OwnMore
import Derived.Test.YteblliofeaahmaaDoorPaf
namespace Go.Proofs.YteblliofeaahmaaDoor
open Go.RowKit
def wst (W W1 W2 W3:World) (b6 b7 b10:Bool):World:=if b10 = true then W3 else if b7 = true then W2 else if b6 = true then W1 else W
structure RA (W W1 W2 W3:World) (p f:Nat) (vf val v':Value) (b0 b1 b2 b3 b4 b5 b6 b7 b8 b9 b10:Bool) (v0 v1 v2 v3 v4 v5 v6 v7 v8 v9:Value) (w':World):Prop where
 f0:b0 = true→v0 = .pointer (some ⟨p,0,none⟩)
 f1:b1 = true→v1 = .pointer (some ⟨p,0,none⟩)
 f2:b2 = true→v2 = .pointer (some ⟨p,0,none⟩)
 f3:b3 = true→v3 = .pointer (some ⟨p,f,none⟩)
 f4:b4 = true→v4 = vf
 f5:b5 = true→v5 = .agg #[val]
 f6:b6 = true→v6 = .slice (some ⟨W.heap.size,0,none⟩) 1 1
 f7:b7 = true→v7 = v'
 f8:b8 = true→v8 = .pointer (some ⟨p,0,none⟩)
 f9:b9 = true→v9 = .pointer (some ⟨p,f,none⟩)
 m7:b7 = true→b6 = true
 m9:b9 = true→b8 = true
 m10:b10 = true→b0 = true∧b1 = true∧b2 = true∧b3 = true∧b4 = true∧b5 = true∧b6 = true∧b7 = true∧b8 = true∧b9 = true
 st:w' = wst W W1 W2 W3 b6 b7 b10
theorem RA.cells {W W1 W2 W3:World} {p f pa:Nat} {vf val v':Value} {b0 b1 b2 b3 b4 b5 b6 b7 b8 b9 b10:Bool} {v0 v1 v2 v3 v4 v5 v6 v7 v8 v9:Value} {w':World} (h:RA W W1 W2 W3 p f vf val v' b0 b1 b2 b3 b4 b5 b6 b7 b8 b9 b10 v0 v1 v2 v3 v4 v5 v6 v7 v8 v9 w') (h10:b10 = false)
  (c0:W.cell? ⟨p,f,none⟩ = some vf∧W.cell? ⟨pa,0,none⟩ = some val) (c1:W1.cell? ⟨p,f,none⟩ = some vf∧W1.cell? ⟨pa,0,none⟩ = some val) (c2:W2.cell? ⟨p,f,none⟩ = some vf∧W2.cell? ⟨pa,0,none⟩ = some val) :
  w'.cell? ⟨p,f,none⟩ = some vf∧w'.cell? ⟨pa,0,none⟩ = some val:=by
 rw [h.st,h10]
 unfold wst
 simp only [Bool.false_eq_true,if_false]
 by_cases h7:b7 = true
 ·rw [if_pos h7]; exact c2
 ·rw [if_neg h7]
  by_cases h6:b6 = true
  ·rw [if_pos h6]; exact c1
  ·rw [if_neg h6]; exact c0
structure Fr (w w':World) (p:Nat) (r1 r2:Option Nat):Prop where
 os:w'.os = w.os
 tape:w'.tape = w.tape
 output:w'.output = w.output
 size:w.heap.size≤w'.heap.size
 block:∀ k,k < w.heap.size→k≠p→some k≠r1→some k≠r2→w'.heap[k]? = w.heap[k]?
theorem Fr.drew {w w':World} {p:Nat} {r1 r2:Option Nat} (h:Fr w w' p r1 r2):Fr w w'.drew p r1 r2:=⟨h.os,h.tape,h.output,h.size,h.block⟩
theorem Mine.cap {w:World} {base:Nat} {a:Option Addr} {n cap m:Nat} (h:Mine w base a n cap m):n≤cap∧cap≤9223372036854775807:=by
 obtain ⟨xs,hn,ho,_⟩:=h
 obtain ⟨a',c',e,h1,h2,_⟩:=ho.lim
 injection e with e1 e2 e3
 omega
theorem bit_row {xs:List Nat} (hw:Pl.Wf xs) (k:Nat):Pl.val xs / 2 ^ k % 2 = xs[k / 32]?.getD 0 / 2 ^ (k % 32) % 2:=by
 have e:2 ^ k = 4294967296 ^ (k / 32) * 2 ^ (k % 32):=by
  rw [show (4294967296:Nat) = 2 ^ 32 from rfl,← Nat.pow_mul,← Nat.pow_add]
  congr 1; omega
 have hd:Pl.val xs / 4294967296 ^ (k / 32) = Pl.val (xs.drop (k / 32)):=by
  by_cases h:k / 32≤xs.length
  ·have hlo:=Pl.val_lt (Pl.wf_take hw (k / 32))
   rw [List.length_take,Nat.min_eq_left h] at hlo
   rw [Pl.val_split xs (k / 32) h,Nat.add_comm,Nat.mul_add_div (Nat.lt_of_le_of_lt (Nat.zero_le _) hlo),Nat.div_eq_of_lt hlo,Nat.add_zero]
  ·have h1:=Pl.val_lt hw
   have h2:=Pl.pow_le (show xs.length≤k / 32 by omega)
   rw [List.drop_eq_nil_of_le (by omega),Nat.div_eq_of_lt (Nat.lt_of_lt_of_le h1 h2)]
   rfl
 rw [e,← Nat.div_div_eq_div_mul,hd,val_mod xs hw (k / 32)]
 generalize Pl.val (xs.drop (k / 32)) = V
 have hp:k % 32 < 32:=by omega
 generalize k % 32 = p at *
 have hs:=pow_split hp
 have hQ:2 ^ (32 - p) = 2 * 2 ^ (31 - p):=by rw [show 32 - p = (31 - p)+1 by omega,Nat.pow_succ,Nat.mul_comm]
 rw [hs,Nat.mod_mul_right_div_self,hQ,Nat.mod_mul_right_mod]
theorem Ans.ok {w:World} {base:Nat} {e:Ending} {m:Nat} (h:Ans w base e m) (hn:¬ Over m):∃ a n cap,e = .returned (.tuple #[.agg #[.slice a n cap],.int .i64 0])∧Mine w base a n cap m:=by
 rcases h with h|⟨_,h⟩
 ·exact h
 ·exact absurd h hn
theorem Num.one {w:World} {a:Option Addr} {n m:Nat} (h:Num w a n m) (h0:0 < m) (h1:m < 4294967296):n = 1:=by
 have hz:=h.zero
 obtain ⟨xs,hn,_,hw,hN,hv,_⟩:=h
 have:=(Pl.val_le_len hw hN 1).2 (by rw [hv]; simpa using h1)
 omega
theorem Num.drew {w:World} {a:Option Addr} {n m:Nat} (h:Num w a n m):Num w.drew a n m:=h
theorem Mine.drew {w:World} {base:Nat} {a:Option Addr} {n cap m:Nat} (h:Mine w base a n cap m):Mine w.drew base a n cap m:=h
theorem Box.drew {w:World} {p:Nat} {v:Value} (h:Box w p v):Box w.drew p v:=h
def DV (w:World) (v:Value):Prop:=∃ (aq:Option Addr) (nq cq:Nat) (ar:Option Addr) (nr cr:Nat),v = .tuple #[.agg #[.slice aq nq cq],.agg #[.slice ar nr cr],.int .i64 0]∧Num w aq nq 33333333333333333333∧Num w ar nr 1
theorem DV.kept {w w':World} {v:Value} (h:DV w v) (hb:Below w.heap.size w w'):DV w' v:=by
 obtain ⟨aq,nq,cq,ar,nr,cr,rfl,h1,h2⟩:=h
 exact ⟨aq,nq,cq,ar,nr,cr,rfl,h1.kept hb,h2.kept hb⟩
def NV (w:World) (v:Value) (m:Nat):Prop:=∃ (a:Option Addr) (n c:Nat),v = .agg #[.slice a n c]∧Num w a n m
theorem NV.kept {w w':World} {v:Value} {m:Nat} (h:NV w v m) (hb:Below w.heap.size w w'):NV w' v m:=by
 obtain ⟨a,n,c,rfl,h1⟩:=h
 exact ⟨a,n,c,rfl,h1.kept hb⟩
def PV (w:World) (base:Nat) (v:Value) (m:Nat) (filled:Bool):Prop:=
 ∃ (p:Nat) (a:Option Addr) (n c:Nat),v = .pointer (some ⟨p,0,none⟩)∧base≤p∧Box w p (.slice a n c)∧(filled = true→Num w a n m)
theorem PV.kept {w w':World} {base:Nat} {v:Value} {m:Nat} {f:Bool} (h:PV w base v m f) (hb:Below w.heap.size w w'):PV w' base v m f:=by
 obtain ⟨p,a,n,c,rfl,h1,h2,h3⟩:=h
 exact ⟨p,a,n,c,rfl,h1,h2.kept hb,fun e=>(h3 e).kept hb⟩
structure R5 (W w:World) (a4:Option Addr) (n4 c4:Nat) (b0 b1 b2 b3 b4 b5 b6 b7 b8 b9 b10 b11:Bool) (v8 v9 v10 v31 v32 v33 v34 v35 v36 v37:Value):Prop where
 bel:Below W.heap.size W w
 f0:b0 = true→v32 = .agg #[.slice a4 n4 c4]
 f1:b1 = true→NV w v33 3
 f2:b2 = true→DV w v34
 f3:b3 = true→DV w v31
 f4:b4 = true→NV w v35 33333333333333333333
 f5:b5 = true→NV w v36 1
 f6:b6 = true→v37 = .int .i64 0
 f7:b7 = true→PV w W.heap.size v8 33333333333333333333 b9
 f8:b8 = true→PV w W.heap.size v9 1 b10
 f78:b7 = true→b8 = true→v8≠v9
 f9:b9 = true→b7 = true
 f10:b10 = true→b8 = true
 f11:b11 = true→v10 = .int .i64 0
theorem R5.kept {W w w':World} {a4:Option Addr} {n4 c4:Nat} {b0 b1 b2 b3 b4 b5 b6 b7 b8 b9 b10 b11:Bool} {v8 v9 v10 v31 v32 v33 v34 v35 v36 v37:Value}
  (h:R5 W w a4 n4 c4 b0 b1 b2 b3 b4 b5 b6 b7 b8 b9 b10 b11 v8 v9 v10 v31 v32 v33 v34 v35 v36 v37) (hb:Below w.heap.size w w'):R5 W w' a4 n4 c4 b0 b1 b2 b3 b4 b5 b6 b7 b8 b9 b10 b11 v8 v9 v10 v31 v32 v33 v34 v35 v36 v37:=
 ⟨gr_trans h.bel hb,h.f0,fun e=>(h.f1 e).kept hb,fun e=>(h.f2 e).kept hb,fun e=>(h.f3 e).kept hb,fun e=>(h.f4 e).kept hb,fun e=>(h.f5 e).kept hb,h.f6,fun e=>(h.f7 e).kept hb,fun e=>(h.f8 e).kept hb,h.f78,h.f9,h.f10,h.f11⟩
end Go.Proofs.YteblliofeaahmaaDoor
