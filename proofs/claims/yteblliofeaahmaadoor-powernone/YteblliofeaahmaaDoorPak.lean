/- Of what PowerNoneRow stands on: Compare Same Mul Sub Guess GcdWords LehMath Foretell Take Div QMath. -/
import Derived.Test.YteblliofeaahmaaDoorPaf
import Derived.BigQuiet
import Derived.Test.YteblliofeaahmaaDoorPae
namespace Go.Proofs.YteblliofeaahmaaDoor
open Go.RowKit
theorem Only.all {w w':World} (h:∀ B,Only B w w') {p:Addr}:w'.cell? p = w.cell? p:=(h (p.block+1)).cell (by omega)
theorem gcd_next (x y:Nat):Nat.gcd y (x % y) = Nat.gcd x y:=by
 rw [Nat.gcd_comm x y,Nat.gcd_rec y x,Nat.gcd_comm]
structure Inv1 (x0 y0 A B C D x y:Int):Prop where
 a0:0≤A
 b0:B≤0
 c0:C≤0
 d0:0≤D
 hx:x = A * x0+B * y0
 hy:y = C * x0+D * y0
 det:A * D - B * C = 1
 xb:0≤x+B
 yc:0≤y+C
theorem Inv1.step {x0 y0 A B C D x y q:Int} (h:Inv1 x0 y0 A B C D x y) (hq:0≤q) (hq2:q * (y+D)≤x+B):Inv1 y0 x0 D C (B - q * D) (A - q * C) y (x - q * y):=by
 have u:q * C≤0:=Int.mul_nonpos_of_nonneg_of_nonpos hq h.c0
 have v:0≤q * D:=Int.mul_nonneg hq h.d0
 refine ⟨h.d0,h.c0,?_,?_,?_,?_,?_,h.yc,?_⟩
 ·have:=h.b0; omega
 ·have:=h.a0; omega
 ·rw [h.hy]; omega
 ·rw [h.hx,h.hy,Int.sub_mul,Int.sub_mul,Int.mul_add,Int.mul_assoc,Int.mul_assoc]; omega
 ·have:=h.det
  rw [Int.mul_sub,Int.mul_sub,Int.mul_left_comm D q C,Int.mul_left_comm C q D,Int.mul_comm D C,Int.mul_comm D A,Int.mul_comm C B]
  omega
 ·rw [Int.mul_add] at hq2
  omega
theorem true_step {A B C D x y H xl yl q:Int} (a0:0≤A) (b0:B≤0) (c0:C≤0) (d0:0≤D) (hq:0≤q) (hH:0 < H) (hxl:0≤xl) (hxl2:xl≤H) (hyl:0≤yl) (hyl2:yl≤H)
  (h1:x+A < (q+1) * (y+C)) (h2:q * (y+D)≤x+B) :
  0≤(x * H+A * xl+B * yl) - q * (y * H+C * xl+D * yl)∧(x * H+A * xl+B * yl) - q * (y * H+C * xl+D * yl) < y * H+C * xl+D * yl:=by
 have u0:q * C≤0:=Int.mul_nonpos_of_nonneg_of_nonpos hq c0
 have v0:0≤q * D:=Int.mul_nonneg hq d0
 have e:q * (y * H+C * xl+D * yl) = q * y * H+q * C * xl+q * D * yl:=by
  rw [Int.mul_add,Int.mul_add,Int.mul_assoc,Int.mul_assoc,Int.mul_assoc]
 rw [e]
 rw [Int.add_mul,Int.mul_add,Int.one_mul] at h1
 rw [Int.mul_add] at h2
 generalize q * C = u at *
 generalize q * D = v at *
 generalize q * y = z at *
 constructor
 ·have p1:0≤(A - u) * xl:=Int.mul_nonneg (by omega) hxl
  have p2:0≤(v - B) * (H - yl):=Int.mul_nonneg (by omega) (by omega)
  have p3:0≤(x - z+B - v) * H:=Int.mul_nonneg (by omega) (by omega)
  rw [Int.sub_mul] at p1
  rw [Int.sub_mul,Int.mul_sub,Int.mul_sub] at p2
  rw [Int.sub_mul,Int.add_mul,Int.sub_mul] at p3
  omega
 ·have p1:0≤(A - u - C) * (H - xl):=Int.mul_nonneg (by omega) (by omega)
  have p2:0≤(v+D - B) * yl:=Int.mul_nonneg (by omega) hyl
  have p3:0≤(z+u+y+C - x - A - 1) * H:=Int.mul_nonneg (by omega) (by omega)
  rw [Int.sub_mul,Int.sub_mul,Int.mul_sub,Int.mul_sub,Int.mul_sub] at p1
  rw [Int.sub_mul,Int.add_mul] at p2
  rw [Int.sub_mul,Int.sub_mul,Int.sub_mul,Int.add_mul,Int.add_mul,Int.add_mul,Int.one_mul] at p3
  omega
theorem sq_bound {t x:Int} (h0:0≤t) (h1:t≤x) (h2:t * x < 4611686018427387904):t≤2147483647:=by
 by_cases h:t≤2147483647
 ·exact h
 ·have:2147483648 * 2147483648≤t * x:=Int.mul_le_mul (by omega) (by omega) (by omega) h0
  omega
theorem Inv1.small {x0 y0 A B C D x y:Int} (h:Inv1 x0 y0 A B C D x y) (hx0:x0 < 4611686018427387904) (hy0:y0 < 4611686018427387904) (hc:-C≤x) (hd:D≤x):-2147483647≤C∧D≤2147483647:=by
 have hxn:0≤x:=by have:=h.xb; have:=h.b0; omega
 have hyn:0≤y:=by have:=h.yc; have:=h.c0; omega
 have e1:x0 = D * x - B * y:=by
  rw [h.hx,h.hy,Int.mul_add,Int.mul_add,← Int.mul_assoc,← Int.mul_assoc,← Int.mul_assoc,← Int.mul_assoc,Int.mul_comm D A,Int.mul_comm D B]
  have:(A * D - B * C) * x0 = 1 * x0:=by rw [h.det]
  rw [Int.sub_mul] at this
  omega
 have e2:y0 = A * y - C * x:=by
  rw [h.hx,h.hy,Int.mul_add,Int.mul_add,← Int.mul_assoc,← Int.mul_assoc,← Int.mul_assoc,← Int.mul_assoc,Int.mul_comm C A,Int.mul_comm C B]
  have:(A * D - B * C) * y0 = 1 * y0:=by rw [h.det]
  rw [Int.sub_mul] at this
  omega
 have p1:0≤(-B) * y:=Int.mul_nonneg (by have:=h.b0; omega) hyn
 have p2:0≤A * y:=Int.mul_nonneg h.a0 hyn
 rw [Int.neg_mul] at p1
 have q1:D * x < 4611686018427387904:=by omega
 have q2:(-C) * x < 4611686018427387904:=by rw [Int.neg_mul]; omega
 have r1:=sq_bound h.d0 hd q1
 have r2:=sq_bound (by have:=h.c0; omega) hc q2
 omega
def Leh (x0 y0 A B C D x y:Int):Prop:=Inv1 x0 y0 A B C D x y∨Inv1 y0 x0 B A D C x y
theorem Leh.step {x0 y0 A B C D x y q:Int} (h:Leh x0 y0 A B C D x y) (hx0:x0 < 4611686018427387904) (hy0:y0 < 4611686018427387904) (hq:0≤q)
  (h1:q * (y+C)≤x+A) (h2:x+A < (q+1) * (y+C)) (h3:q * (y+D)≤x+B) (h4:x+B < (q+1) * (y+D)) :
  Leh x0 y0 C D (A - q * C) (B - q * D) y (x - q * y)∧-2147483647≤A - q * C∧A - q * C≤2147483647∧-2147483647≤B - q * D∧B - q * D≤2147483647∧x - q * y < y:=by
 rcases h with h|h
 ·have hs:=h.step hq h3
  have e2:x+A < q * y+q * C+(y+C):=by rw [Int.add_mul,Int.mul_add,Int.one_mul] at h2; exact h2
  have hc:=hs.c0
  have hd:=hs.d0
  have hyc:=hs.yc
  have hb:=hs.b0
  have hsm:=hs.small hy0 hx0 (by omega) (by omega)
  exact ⟨Or.inr hs,by omega,by omega,by omega,by omega,by omega⟩
 ·have hs:=h.step hq h1
  have e2:x+B < q * y+q * D+(y+D):=by rw [Int.add_mul,Int.mul_add,Int.one_mul] at h4; exact h4
  have hc:=hs.c0
  have hd:=hs.d0
  have hyc:=hs.yc
  have hb:=hs.b0
  have hsm:=hs.small hx0 hy0 (by omega) (by omega)
  exact ⟨Or.inl hs,by omega,by omega,by omega,by omega,by omega⟩
theorem Leh.true {x0 y0 A B C D x y q H xl yl:Int} (h:Leh x0 y0 A B C D x y) (hq:0≤q) (hH:0 < H) (hxl:0≤xl) (hxl2:xl≤H) (hyl:0≤yl) (hyl2:yl≤H)
  (h1:q * (y+C)≤x+A) (h2:x+A < (q+1) * (y+C)) (h3:q * (y+D)≤x+B) (h4:x+B < (q+1) * (y+D)) :
  0≤(A * (x0 * H+xl)+B * (y0 * H+yl)) - q * (C * (x0 * H+xl)+D * (y0 * H+yl)) ∧
   (A * (x0 * H+xl)+B * (y0 * H+yl)) - q * (C * (x0 * H+xl)+D * (y0 * H+yl)) < C * (x0 * H+xl)+D * (y0 * H+yl):=by
 have ex:A * (x0 * H+xl)+B * (y0 * H+yl) = (A * x0+B * y0) * H+A * xl+B * yl:=by
  rw [Int.mul_add,Int.mul_add,Int.add_mul,Int.mul_assoc,Int.mul_assoc]; omega
 have ey:C * (x0 * H+xl)+D * (y0 * H+yl) = (C * x0+D * y0) * H+C * xl+D * yl:=by
  rw [Int.mul_add,Int.mul_add,Int.add_mul,Int.mul_assoc,Int.mul_assoc]; omega
 rw [ex,ey]
 rcases h with h|h
 ·rw [← h.hx,← h.hy]
  exact true_step h.a0 h.b0 h.c0 h.d0 hq hH hxl hxl2 hyl hyl2 h2 h3
 ·have e1:A * x0+B * y0 = x:=by rw [h.hx]; omega
  have e2:C * x0+D * y0 = y:=by rw [h.hy]; omega
  rw [e1,e2]
  have:=true_step h.a0 h.b0 h.c0 h.d0 hq hH hyl hyl2 hxl hxl2 h4 h1
  rw [show x * H+A * xl+B * yl = x * H+B * yl+A * xl by omega,show y * H+C * xl+D * yl = y * H+D * yl+C * xl by omega]
  exact this
def Tru (Xt Yt:Nat) (A B C D:Int):Prop:=∃ X Y:Nat,(X:Int) = A * Xt+B * Yt∧(Y:Int) = C * Xt+D * Yt∧Nat.gcd X Y = Nat.gcd Xt Yt∧((A = 1∧B = 0∧C = 0∧D = 1)∨(Y < X∧X≤Yt))
theorem Tru.step {Xt Yt:Nat} {A B C D q:Int} (h:Tru Xt Yt A B C D) (hq:0≤q) (h1:0≤(A * Xt+B * Yt) - q * (C * Xt+D * Yt)) (h2:(A * Xt+B * Yt) - q * (C * Xt+D * Yt) < C * Xt+D * Yt):Tru Xt Yt C D (A - q * C) (B - q * D):=by
 obtain ⟨X,Y,hX,hY,hg,hc⟩:=h
 rw [← hX,← hY] at h1 h2
 obtain ⟨n,rfl⟩:=Int.eq_ofNat_of_zero_le hq
 have e:(X:Int) - (n:Int) * (Y:Int) = ((X - n * Y:Nat):Int):=by
  have:n * Y≤X:=by
   have:((n * Y:Nat):Int)≤(X:Int):=by rw [Int.natCast_mul]; omega
   omega
  rw [Int.natCast_sub this,Int.natCast_mul]
 rw [e] at h1 h2
 have hle:n * Y≤X:=by
  have:((n * Y:Nat):Int)≤(X:Int):=by rw [Int.natCast_mul]; omega
  omega
 have hlt:X - n * Y < Y:=by omega
 have hmod:X % Y = X - n * Y:=by
  have:X = n * Y+(X - n * Y):=by omega
  rw [this,Nat.mul_comm n Y,Nat.mul_add_mod,Nat.mod_eq_of_lt (by rw [Nat.mul_comm Y n]; omega)]
  rw [Nat.mul_comm Y n]
  omega
 refine ⟨Y,X - n * Y,hY,?_,?_,Or.inr ⟨hlt,?_⟩⟩
 ·rw [← e,hX,hY,Int.sub_mul,Int.sub_mul,Int.mul_add,Int.mul_assoc,Int.mul_assoc]; omega
 ·rw [← hmod,gcd_next,hg]
 ·rcases hc with ⟨_,_,hC,hD⟩|⟨h3,h4⟩
  ·rw [hC,hD] at hY; omega
  ·omega
end Go.Proofs.YteblliofeaahmaaDoor
