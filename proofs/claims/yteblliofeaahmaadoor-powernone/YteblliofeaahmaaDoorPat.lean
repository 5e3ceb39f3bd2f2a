/- Of what PowerNoneRow stands on: RefParse RefSums RefQuo RefQuoW. -/
import Derived.Test.YteblliofeaahmaaDoorPap
import Derived.Test.YteblliofeaahmaaDoorPaq
import Derived.Test.YteblliofeaahmaaDoorPas
import Derived.Test.YteblliofeaahmaaDoorPar
import Derived.Test.YteblliofeaahmaaDoorPaf
import Derived.Test.YteblliofeaahmaaDoorPak
namespace Go.Proofs.YteblliofeaahmaaDoor
open Go.RowKit
theorem Own.lim' {w:World} {base:Nat} {a:Option Addr} {n c:Nat} {xs:List Nat} (h:Own w base (.slice a n c) xs):Lim w a xs:=by
 obtain ⟨a',c',e,_,_,hl⟩:=h.lim
 rw [(Value.slice.inj e).1]; exact hl
structure TwoR (w W:World) (a a':Option Addr) (n n' cap cap':Nat):Prop where
 ba:Box W w.heap.size (.slice a n cap)
 bb:Box W (w.heap.size+1) (.slice a' n' cap')
 br:Box W (w.heap.size+2) (.slice none 0 0)
 bel:Below w.heap.size w W
theorem TwoR.kept {w W W':World} {a a':Option Addr} {n n' cap cap':Nat} (h:TwoR w W a a' n n' cap cap') (hb:Below W.heap.size W W'):TwoR w W' a a' n n' cap cap':=⟨h.ba.kept hb,h.bb.kept hb,h.br.kept hb,gr_trans h.bel hb⟩
structure QSt (w wr:World) (rv:Value) (L R V:Nat):Prop where
 r:∃ rs,Own wr (w.heap.size+1) rv rs∧Pl.Wf rs∧Pl.Norm rs∧Pl.val rs = R
 q:∃ qs,Row wr w.heap.size qs∧qs.length = L∧Pl.Wf qs∧Pl.val qs = V
 fr:Below w.heap.size w wr
 sz:w.heap.size+1≤wr.heap.size
theorem QSt.kept {w wr w':World} {rv:Value} {L R V:Nat} (h:QSt w wr rv L R V) (hb:Below wr.heap.size wr w'):QSt w w' rv L R V:=by
 obtain ⟨⟨rs,h1,h2⟩,⟨qs,h3,h4⟩,h5,h6⟩:=h
 exact ⟨⟨rs,h1.kept hb,h2⟩,⟨qs,h3.kept hb,h4⟩,gr_trans h5 hb,Nat.le_trans h6 hb.size⟩
theorem QSt.num {w wr:World} {a:Option Addr} {n c L R V k:Nat} (h:QSt w wr (.slice a n c) L R V) (hk:k≤16384) (hR:R < 4294967296 ^ k):Num wr a n R∧n≤k:=by
 obtain ⟨⟨rs,h1,h2,h3,h4⟩,_,_,_⟩:=h
 have hl:=h1.len
 have:=(Pl.val_le_len h2 h3 k).2 (by rw [h4]; exact hR)
 exact ⟨⟨rs,hl,h1.lim',h2,h3,h4,by omega⟩,by omega⟩
theorem QSt.put {w wr:World} {rv:Value} {L R X i:Nat} (h:QSt w wr rv L R (2 * X * 2 ^ i)) (hi:i / 32 < L) :
  ∃ q z:Nat,wr.cell? ⟨w.heap.size,i / 32,none⟩ = some (.int .u32 (q:Int))∧wr.frozen? ⟨w.heap.size,i / 32,none⟩ = false∧Go.bits .or .u32 (q:Int) ((2 ^ (i % 32):Nat):Int) = (z:Int) ∧
   QSt w (wr.setCell ⟨w.heap.size,i / 32,none⟩ (.int .u32 (z:Int))) rv L R ((2 * X+1) * 2 ^ i):=by
 obtain ⟨⟨rs,h1,h2⟩,⟨qs,h5,h6,h7,h8⟩,h9,h10⟩:=h
 obtain ⟨k1,k2,k3⟩:=put_bit h7 (by omega) h8
 exact ⟨_,_,h5.cell _ (by omega),h5.frozen _,k1,⟨rs,h1.set (p:=⟨w.heap.size,i / 32,none⟩) (show w.heap.size < w.heap.size+1 by omega) _,h2⟩,⟨_,h5.set _ _ (by omega),by rw [List.length_set]; exact h6,k2,k3⟩,h9.setCell (p:=⟨w.heap.size,i / 32,none⟩) (Nat.le_refl _) _,by simp [World.setCell]; exact h10⟩
def QuoTo (base m d:Nat) (e:Ending) (w':World):Prop:=
 ∃ a1 n1 c1 a2 n2 c2,e = .returned (.tuple #[.slice a1 n1 c1,.slice a2 n2 c2])∧Mine w' base a1 n1 c1 (m / d)∧Mine w' base a2 n2 c2 (m % d)
theorem QSt.done {w wr:World} {a:Option Addr} {n c L R X m d k:Nat} (h:QSt w wr (.slice a n c) L R (X * 2 ^ 0)) (hL:L≤16384) (hm:m / 2 ^ 0 = X * d+R) (hR:R < d) (hk0:k≤16384) (hk:R < 4294967296 ^ k) :
  Calls Tryd.prog 52 #[.slice (some ⟨w.heap.size,0,none⟩) L L] wr fun e w'=>wr = w'∧∃ a1 n1 c1,e = .returned (.slice a1 n1 c1)∧QuoTo w.heap.size m d (.returned (.tuple #[.slice a1 n1 c1,.slice a n c])) wr:=by
 have hn:=Nat.le_trans (h.num hk0 hk).2 hk0
 obtain ⟨⟨rs,h1,h2,h3,rfl⟩,⟨qs,h5,h6,h7,h8⟩,h9,h10⟩:=h
 have hO:Own wr w.heap.size (.slice (some ⟨w.heap.size,0,none⟩) L L) qs:=by
  have:=h5.own (Nat.le_refl w.heap.size) L L (Nat.le_refl _) (by omega) (by omega)
  rwa [List.take_of_length_le (by omega)] at this
 refine (rtrim_own w.heap.size _ qs wr hO h7).mono ?_
 rintro e w' ⟨rfl,a1,n1,c1,ys,rfl,k1,k2,k3,k4,k5,k6⟩
 rw [Nat.pow_zero,Nat.div_one] at hm
 rw [h8,Nat.pow_zero,Nat.mul_one] at k6
 have hq:m / d = X:=by rw [hm,Nat.mul_comm,Nat.mul_add_div (by omega),Nat.div_eq_of_lt hR,Nat.add_zero]
 have hr:m % d = Pl.val rs:=by rw [hm,Nat.mul_comm,Nat.mul_add_mod]; exact Nat.mod_eq_of_lt hR
 refine ⟨rfl,a1,n1,c1,rfl,a1,n1,c1,a,n,c,rfl,⟨ys,k2,k3,k4,k5,k6.trans hq.symm,by omega⟩,⟨rs,h1.len,h1.mono (by omega),h2,h3,hr.symm,hn⟩⟩
end Go.Proofs.YteblliofeaahmaaDoor
