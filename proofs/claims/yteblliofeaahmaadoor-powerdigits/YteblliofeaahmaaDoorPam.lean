/- Of what PowerDigitsRow stands on: BookG UpOver UpDown RefBits Bad Pow Alive. -/
import Derived.Test.YteblliofeaahmaaDoorPak
import Derived.Test.YteblliofeaahmaaDoorPal
import Derived.Test.YteblliofeaahmaaDoorPaa
import Derived.Maps.AppendAt
import Derived.Laws.OwnMore
import Derived.Test.YteblliofeaahmaaDoorPaf
namespace Go.Proofs.YteblliofeaahmaaDoor
open Go.RowKit
set_option maxHeartbeats 400000
def wst (W W1 W2 W3:World) (b6 b7 b10:Bool):World:=if b10 = true then W3 else if b7 = true then W2 else if b6 = true then W1 else W
structure RA (W W1 W2 W3:World) (p f:Nat) (vf val v':Value) (b0 b1 b2 b3 b4 b5 b6 b7 b8 b9 b10:Bool) (v0 v1 v2 v3 v4 v5 v6 v7 v8 v9:Value) (w':World):Prop where
 f0:b0 = true→v0 = .pointer (some ⟨p,0,none⟩)
 f1:b1 = true→v1 = .pointer (some ⟨p,0,none⟩)
 f2:b2 = true→v2 = .pointer (some ⟨p,0,none⟩)
 f3:b3 = true→v3 = .pointer (some ⟨p,f,none⟩)
 f4:b4 = true→v4 = vf
 f5:b5 = true→v5 = .agg #[val]
 f6:b6 = true→v6 = .slice (some ⟨W.heap.size,0,none⟩) 1 1
 f7:b7 = true→v7 = v'
 f8:b8 = true→v8 = .pointer (some ⟨p,0,none⟩)
 f9:b9 = true→v9 = .pointer (some ⟨p,f,none⟩)
 m7:b7 = true→b6 = true
 m9:b9 = true→b8 = true
 m10:b10 = true→b0 = true∧b1 = true∧b2 = true∧b3 = true∧b4 = true∧b5 = true∧b6 = true∧b7 = true∧b8 = true∧b9 = true
 st:w' = wst W W1 W2 W3 b6 b7 b10
theorem RA.cells {W W1 W2 W3:World} {p f pa:Nat} {vf val v':Value} {b0 b1 b2 b3 b4 b5 b6 b7 b8 b9 b10:Bool} {v0 v1 v2 v3 v4 v5 v6 v7 v8 v9:Value} {w':World} (h:RA W W1 W2 W3 p f vf val v' b0 b1 b2 b3 b4 b5 b6 b7 b8 b9 b10 v0 v1 v2 v3 v4 v5 v6 v7 v8 v9 w') (h10:b10 = false)
  (c0:W.cell? ⟨p,f,none⟩ = some vf∧W.cell? ⟨pa,0,none⟩ = some val) (c1:W1.cell? ⟨p,f,none⟩ = some vf∧W1.cell? ⟨pa,0,none⟩ = some val) (c2:W2.cell? ⟨p,f,none⟩ = some vf∧W2.cell? ⟨pa,0,none⟩ = some val) :
  w'.cell? ⟨p,f,none⟩ = some vf∧w'.cell? ⟨pa,0,none⟩ = some val:=by
 rw [h.st,h10]
 unfold wst
 simp only [Bool.false_eq_true,if_false]
 by_cases h7:b7 = true
 ·rw [if_pos h7]; exact c2
 ·rw [if_neg h7]
  by_cases h6:b6 = true
  ·rw [if_pos h6]; exact c1
  ·rw [if_neg h6]; exact c0
theorem own_below {w w':World} {base n B:Nat} {t:TypeId} {v:Value} {xs:List Value} (h:w.ownsRow base t 1 v n xs) (hb:Below B w w') (hB:w.heap.size≤B:=by exact Nat.le_refl _):w'.ownsRow base t 1 v n xs:=by
 obtain ⟨h1,h2|⟨g,cap,cur,e,hg,hh,r⟩⟩:=h
 ·exact ⟨h1,Or.inl h2⟩
 ·have hlt:g < w.heap.size:=by
   by_cases hlt:g < w.heap.size
   ·exact hlt
   ·rw [Array.getElem?_eq_none (by omega)] at hh; cases hh
  exact ⟨h1,Or.inr ⟨g,cap,cur,e,hg,by rw [hb.block g (by omega)]; exact hh,r⟩⟩
structure Fr (w w':World) (p:Nat) (r1 r2:Option Nat):Prop where
 os:w'.os = w.os
 tape:w'.tape = w.tape
 output:w'.output = w.output
 size:w.heap.size≤w'.heap.size
 block:∀ k,k < w.heap.size→k≠p→some k≠r1→some k≠r2→w'.heap[k]? = w.heap[k]?
theorem Fr.drew {w w':World} {p:Nat} {r1 r2:Option Nat} (h:Fr w w' p r1 r2):Fr w w'.drew p r1 r2:=⟨h.os,h.tape,h.output,h.size,h.block⟩
theorem Mine.cap {w:World} {base:Nat} {a:Option Addr} {n cap m:Nat} (h:Mine w base a n cap m):n≤cap∧cap≤9223372036854775807:=by
 obtain ⟨xs,hn,ho,_⟩:=h
 obtain ⟨a',c',e,h1,h2,_⟩:=ho.lim
 injection e with e1 e2 e3
 omega
theorem bl_ex (m:Nat):∃ j,Bl m j:=by
 induction m using Nat.strongRecOn with
 | ind m ih=>
  by_cases h:m = 0
  ·exact ⟨0,by subst h; exact bl_zero⟩
  ·obtain ⟨j,h1,h2⟩:=ih (m / 2) (by omega)
   refine ⟨j+1,by rw [Nat.pow_succ]; omega,Or.inr ?_⟩
   rw [Nat.add_sub_cancel]
   rcases h2 with h2|h2
   ·subst h2; simp; omega
   ·by_cases hj:j = 0
    ·subst hj; simp; omega
    ·have:2 ^ j = 2 ^ (j - 1) * 2:=by rw [← Nat.pow_succ]; congr 1; omega
     omega
theorem bl_half {x k:Nat} (hx:x≠0) (h:Bl (x / 2) k):Bl x (k+1):=by
 obtain ⟨h1,h2⟩:=h
 refine ⟨by rw [Nat.pow_succ]; omega,Or.inr ?_⟩
 rw [Nat.add_sub_cancel]
 rcases h2 with h2|h2
 ·subst h2; simp; omega
 ·by_cases hz:k = 0
  ·subst hz; simp; omega
  ·have:2 ^ k = 2 ^ (k - 1) * 2:=by rw [← Nat.pow_succ]; congr 1; omega
   omega
theorem rsize_any (a:Option Addr) (n cap m:Nat) (w:World) (h:Num w a n m) :
  Calls Tryd.prog 55 #[.slice a n cap] w fun e w'=>(∃ k:Nat,e = .returned (.int .i64 (k:Int))∧Bl m k∧k≤32 * n)∧w = w':=by
 obtain ⟨xs,hn,hl,hw,hN,hv,hb⟩:=h
 subst hn
 rcases hl.parts with hx|⟨hp,b,off,rfl,hlt,hc⟩
 ·subst hx
  go_enter Tryd.func55,Tryd.ntmps55
  go_wp2
  go_ret
  exact ⟨⟨0,rfl,by rw [← hv]; exact bl_zero,by omega⟩,rfl⟩
 ·obtain ⟨l,hle⟩:∃ l,l = xs[xs.length - 1]?.getD 0:=⟨_,rfl⟩
  have hcell:=hc (xs.length - 1) (by omega)
  rw [← hle] at hcell
  have hll:l < 4294967296:=by rw [hle]; exact Pl.wf_at hw _
  have hB:=bl_row hw hN hp l hle
  have hxl:((xs.length:Int) == 0) = false:=by simp; intro h; simp [h] at hp
  obtain ⟨hB1,hB2,hB3⟩:=hB
  rw [hv] at hB1
  have HB:=hide hB1
  have HL:=hide (bl_bitLen 64 l (by omega) (by omega))
  generalize hbl:Lib.bitLen l = bl at *
  have hnl:xs.length≤16384:=hb
  have hnp:0 < xs.length:=hp
  generalize xs.length = n at *
  clear hB1 hle hc hl hv hN hw hbl
  go_enter Tryd.func55,Tryd.ntmps55
  go_wp2
  go_loopw [3,4] (fun s3 s4 wr=>∃ (x k j:Nat),s4 = .int .u32 (x:Int)∧x < 4294967296∧s3 = .int .i64 (32 * ((n:Int) - 1)+(j:Int))∧j+k = bl∧Hid (Bl x k)∧w = wr) (fun _ s4 _=>(intOf s4).toNat)
  case atStart=>exact ⟨l,bl,0,rfl,hll,by simp,by omega,HL,rfl⟩
  case round=>
   obtain ⟨x,k,j,rfl,hx,rfl,hjk,HX,rfl⟩:=hrel
   by_cases h0:x = 0
   ·subst h0
    have hk0:k = 0:=(unhide HX).uniq bl_zero
    have hji:32 * ((n:Int) - 1)+(j:Int) = ((32 * (n - 1)+bl:Nat):Int):=by omega
    clear HX
    go_wp2
    go_ret
    exact ⟨⟨32 * (n - 1)+bl,ret_int hji,unhide HB,by omega⟩,rfl⟩
   ·obtain ⟨k',hk'⟩:∃ k',Bl (x / 2) k':=bl_ex (x / 2)
    have hkk:k = k'+1:=(unhide HX).uniq (bl_half h0 hk')
    have HX':=hide hk'
    have hx0i:(0:Int) < (x:Int):=by omega
    clear HX hk'
    go_wp2
    go_roundw
    case rel=>
     have e1:(x:Int) / 2 = ((x / 2:Nat):Int):=by omega
     rw [e1]
     exact ⟨x / 2,k',j+1,rfl,by omega,by congr 1; omega,by omega,unhide HX',trivial⟩
    case measure=>simp [intOf]; omega
theorem over_not {m k:Nat} (hk:k≤Pl.top) (h:m < 4294967296 ^ k):¬ Over m:=fun o=>by
 have:=o.le
 have:=Pl.pow_le hk
 omega
theorem Ans.ok {w:World} {base:Nat} {e:Ending} {m:Nat} (h:Ans w base e m) (hn:¬ Over m):∃ a n cap,e = .returned (.tuple #[.agg #[.slice a n cap],.int .i64 0])∧Mine w base a n cap m:=by
 rcases h with h|⟨_,h⟩
 ·exact h
 ·exact absurd h hn
theorem Num.one {w:World} {a:Option Addr} {n m:Nat} (h:Num w a n m) (h0:0 < m) (h1:m < 4294967296):n = 1:=by
 have hz:=h.zero
 obtain ⟨xs,hn,_,hw,hN,hv,_⟩:=h
 have:=(Pl.val_le_len hw hN 1).2 (by rw [hv]; simpa using h1)
 omega
theorem Num.drew {w:World} {a:Option Addr} {n m:Nat} (h:Num w a n m):Num w.drew a n m:=h
theorem Mine.drew {w:World} {base:Nat} {a:Option Addr} {n cap m:Nat} (h:Mine w base a n cap m):Mine w.drew base a n cap m:=h
theorem Box.drew {w:World} {p:Nat} {v:Value} (h:Box w p v):Box w.drew p v:=h
def DV (w:World) (v:Value):Prop:=∃ (aq:Option Addr) (nq cq:Nat) (ar:Option Addr) (nr cr:Nat),v = .tuple #[.agg #[.slice aq nq cq],.agg #[.slice ar nr cr],.int .i64 0]∧Num w aq nq 33333333333333333333∧Num w ar nr 1
theorem DV.kept {w w':World} {v:Value} (h:DV w v) (hb:Below w.heap.size w w'):DV w' v:=by
 obtain ⟨aq,nq,cq,ar,nr,cr,rfl,h1,h2⟩:=h
 exact ⟨aq,nq,cq,ar,nr,cr,rfl,h1.kept hb,h2.kept hb⟩
theorem DV.setBox {w:World} {v:Value} (h:DV w v) {p:Nat} {a0:Option Addr} {n0 c0:Nat} (hb:Box w p (.slice a0 n0 c0)) (u:Value):DV (w.setCell ⟨p,0,none⟩ u) v:=by
 obtain ⟨aq,nq,cq,ar,nr,cr,rfl,h1,h2⟩:=h
 exact ⟨aq,nq,cq,ar,nr,cr,rfl,h1.setBox hb u,h2.setBox hb u⟩
def NV (w:World) (v:Value) (m:Nat):Prop:=∃ (a:Option Addr) (n c:Nat),v = .agg #[.slice a n c]∧Num w a n m
theorem NV.kept {w w':World} {v:Value} {m:Nat} (h:NV w v m) (hb:Below w.heap.size w w'):NV w' v m:=by
 obtain ⟨a,n,c,rfl,h1⟩:=h
 exact ⟨a,n,c,rfl,h1.kept hb⟩
theorem NV.setBox {w:World} {v:Value} {m:Nat} (h:NV w v m) {p:Nat} {a0:Option Addr} {n0 c0:Nat} (hb:Box w p (.slice a0 n0 c0)) (u:Value):NV (w.setCell ⟨p,0,none⟩ u) v m:=by
 obtain ⟨a,n,c,rfl,h1⟩:=h
 exact ⟨a,n,c,rfl,h1.setBox hb u⟩
def PV (w:World) (base:Nat) (v:Value) (m:Nat) (filled:Bool):Prop:=
 ∃ (p:Nat) (a:Option Addr) (n c:Nat),v = .pointer (some ⟨p,0,none⟩)∧base≤p∧Box w p (.slice a n c)∧(filled = true→Num w a n m)
theorem PV.kept {w w':World} {base:Nat} {v:Value} {m:Nat} {f:Bool} (h:PV w base v m f) (hb:Below w.heap.size w w'):PV w' base v m f:=by
 obtain ⟨p,a,n,c,rfl,h1,h2,h3⟩:=h
 exact ⟨p,a,n,c,rfl,h1,h2.kept hb,fun e=>(h3 e).kept hb⟩
theorem PV.setBox {w:World} {base:Nat} {v:Value} {m:Nat} {f:Bool} (h:PV w base v m f) {p:Nat} {a0:Option Addr} {n0 c0:Nat} (hb:Box w p (.slice a0 n0 c0)) (u:Value) (hne:v≠.pointer (some ⟨p,0,none⟩)):PV (w.setCell ⟨p,0,none⟩ u) base v m f:=by
 obtain ⟨q,a,n,c,rfl,h1,h2,h3⟩:=h
 exact ⟨q,a,n,c,rfl,h1,h2.other (fun e=>hne (by rw [e])) u,fun e=>(h3 e).setBox hb u⟩
structure R5 (W w:World) (a4:Option Addr) (n4 c4:Nat) (b0 b1 b2 b3 b4 b5 b6 b7 b8 b9 b10 b11:Bool) (v8 v9 v10 v31 v32 v33 v34 v35 v36 v37:Value):Prop where
 bel:Below W.heap.size W w
 f0:b0 = true→v32 = .agg #[.slice a4 n4 c4]
 f1:b1 = true→NV w v33 3
 f2:b2 = true→DV w v34
 f3:b3 = true→DV w v31
 f4:b4 = true→NV w v35 33333333333333333333
 f5:b5 = true→NV w v36 1
 f6:b6 = true→v37 = .int .i64 0
 f7:b7 = true→PV w W.heap.size v8 33333333333333333333 b9
 f8:b8 = true→PV w W.heap.size v9 1 b10
 f78:b7 = true→b8 = true→v8≠v9
 f9:b9 = true→b7 = true
 f10:b10 = true→b8 = true
 f11:b11 = true→v10 = .int .i64 0
theorem R5.kept {W w w':World} {a4:Option Addr} {n4 c4:Nat} {b0 b1 b2 b3 b4 b5 b6 b7 b8 b9 b10 b11:Bool} {v8 v9 v10 v31 v32 v33 v34 v35 v36 v37:Value}
  (h:R5 W w a4 n4 c4 b0 b1 b2 b3 b4 b5 b6 b7 b8 b9 b10 b11 v8 v9 v10 v31 v32 v33 v34 v35 v36 v37) (hb:Below w.heap.size w w'):R5 W w' a4 n4 c4 b0 b1 b2 b3 b4 b5 b6 b7 b8 b9 b10 b11 v8 v9 v10 v31 v32 v33 v34 v35 v36 v37:=
 ⟨gr_trans h.bel hb,h.f0,fun e=>(h.f1 e).kept hb,fun e=>(h.f2 e).kept hb,fun e=>(h.f3 e).kept hb,fun e=>(h.f4 e).kept hb,fun e=>(h.f5 e).kept hb,h.f6,fun e=>(h.f7 e).kept hb,fun e=>(h.f8 e).kept hb,h.f78,h.f9,h.f10,h.f11⟩
end Go.Proofs.YteblliofeaahmaaDoor
