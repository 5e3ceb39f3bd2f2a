/- Of what QuickRightRow stands on: QkFlt. -/
import Derived.Test.YtdekhacomggpgaaGreatDoorPaw
import Derived.Test.YtdekhacomggpgaaGreatDoorPbm
namespace Go.Proofs.YtdekhacomggpgaaGreatDoor
open Ieee
def ExV (f:Format) (b v:Nat):Prop:=∃ m i,f.read b = .number false m i∧m * 2 ^ i.toNat = v * 2 ^ (-i).toNat
def isExV (f:Format) (b v:Nat):Bool:=match f.read b with
 | .number s m i=>!s && (m * 2 ^ i.toNat == v * 2 ^ (-i).toNat)
 | _=>false
theorem ex_of {f:Format} {b v:Nat} (h:isExV f b v = true):ExV f b v:=by
 unfold isExV at h
 split at h
 ·rename_i s m i e
  rw [Bool.and_eq_true,beq_iff_eq] at h
  refine ⟨m,i,?_,h.2⟩
  rw [e]
  cases s
  ·rfl
  ·exact absurd h.1 (by decide)
 ·cases h
theorem p64_ex:∀ j,j < 23→isExV FloatKind.f64.format (p64 j) (10 ^ j) = true:=of_decide_eq_true (by kernel_rfl)
theorem p32_ex:∀ j,j < 11→isExV FloatKind.f32.format (p32 j) (10 ^ j) = true:=of_decide_eq_true (by kernel_rfl)
theorem read_norm {f:Format} {e r:Nat} (he:1≤e) (hr:r < f.binade) (hi:e * f.binade+r < f.infRung):f.read (e * f.binade+r) = .number false (f.binade+r) (f.leastPlace+((e - 1:Nat):Int)):=by
 have hl:=f.infRung_lt
 have hb:0 < f.binade:=two_pos _
 have h0:(e * f.binade+r) / f.signWeight = 0:=Nat.div_eq_of_lt (by omega)
 have h1:(e * f.binade+r) % f.signWeight = e * f.binade+r:=Nat.mod_eq_of_lt (by omega)
 have h2:¬ e * f.binade+r < f.binade:=by
  have:=Nat.mul_le_mul_right f.binade he
  omega
 have h3:(e * f.binade+r) % f.binade = r:=by rw [Nat.mul_comm,Nat.mul_add_mod]; exact Nat.mod_eq_of_lt hr
 have h4:(e * f.binade+r) / f.binade = e:=by rw [Nat.mul_comm,Nat.mul_add_div hb,Nat.div_eq_of_lt hr,Nat.add_zero]
 unfold Format.read
 simp only [h0,h1]
 rw [if_neg h2,if_pos hi,h3,h4]
 rfl
theorem near_whole {f:Format} {B F S I:Nat} (hf:Fmt f B F S I) (hB:2≤B) (hI:(F+B+1) * 2 ^ F≤I) {n:Nat} (h0:0 < n) (hn:n < 2 ^ (F+1)):ExV f (f.nearest false n 0) n:=by
 have hb:f.binade = 2 ^ F:=by unfold Format.binade; rw [hf.fr]
 have hL1:2 ^ n.log2≤n:=Nat.log2_self_le (by omega)
 have hL2:n < 2 ^ (n.log2+1):=Nat.lt_log2_self
 have hLF:n.log2≤F:=by
  have:n.log2 < F+1:=(Nat.log2_lt (by omega)).2 hn
  omega
 obtain ⟨L,hL⟩:∃ L,L = n.log2:=⟨_,rfl⟩
 rw [← hL] at hL1 hL2 hLF
 obtain ⟨r,hr⟩:∃ r,r = n * 2 ^ (F - L) - 2 ^ F:=⟨_,rfl⟩
 have e1:2 ^ F = 2 ^ L * 2 ^ (F - L):=by rw [← Nat.pow_add]; congr 1; omega
 have e2:2 ^ L * 2 ^ (F - L)≤n * 2 ^ (F - L):=Nat.mul_le_mul_right _ hL1
 have e3:n * 2 ^ (F - L) < 2 ^ (L+1) * 2 ^ (F - L):=Nat.mul_lt_mul_of_pos_right hL2 (two_pos _)
 have e4:2 ^ (L+1) * 2 ^ (F - L) = 2 * (2 ^ L * 2 ^ (F - L)):=by rw [Nat.pow_succ]; ac_rfl
 have hrF:r < 2 ^ F:=by omega
 have hnr:n * 2 ^ (F - L) = 2 ^ F+r:=by omega
 have hlt:(L+B) * 2 ^ F+r < I:=by
  have:(L+B+1) * 2 ^ F≤(F+B+1) * 2 ^ F:=Nat.mul_le_mul_right _ (by omega)
  rw [Nat.add_mul (L+B) 1,Nat.one_mul] at this
  omega
 have hw:f.nearest false n 0 = (L+B) * f.binade+r:=by
  rw [near_rnd f false n 0 ((L:Int) - (F:Int)) (by omega) (by rw [hf.fr,hf.le,← hL]; omega),hf.le,hb,hf.inf]
  have a1:((L:Int) - (F:Int) - (1 - (B:Int) - (F:Int))).toNat = L+B - 1:=by omega
  have a2:(0 - ((L:Int) - (F:Int))).toNat = F - L:=by omega
  have a3:((L:Int) - (F:Int) - 0).toNat = 0:=by omega
  rw [a1,a2,a3,hnr]
  have a4:rnd 0 false (2 ^ F+r) (2 ^ 0) = 2 ^ F+r:=by unfold rnd; simp [Nat.mod_one]
  rw [a4]
  have a5:(L+B - 1) * 2 ^ F+(2 ^ F+r) = (L+B) * 2 ^ F+r:=by
   obtain ⟨q,hq⟩:∃ q,L+B = q+1:=⟨L+B - 1,by omega⟩
   rw [hq,Nat.add_sub_cancel,Nat.add_mul,Nat.one_mul]; omega
  rw [a5,Nat.min_eq_left (by omega)]
  rfl
 rw [hw]
 refine ⟨_,_,read_norm (by omega) (by rw [hb]; exact hrF) (by rw [hb,hf.inf]; exact hlt),?_⟩
 have b1:f.leastPlace+((L+B - 1:Nat):Int) = (L:Int) - (F:Int):=by rw [hf.le]; omega
 rw [b1,hb,← hnr]
 have b2:((L:Int) - (F:Int)).toNat = 0:=by omega
 have b3:(-((L:Int) - (F:Int))).toNat = F - L:=by omega
 rw [b2,b3,Nat.pow_zero,Nat.mul_one]
theorem mul_row {f:Format} {B F S I:Nat} (hf:Fmt f B F S I) (hF:F≤52) {x y v v':Nat} (hx:ExV f x v) (hy:ExV f y v') (h0:v * v'≠0) {p q d i j n b z M K:Nat} {X:Int} (h:Sti p q d i j n b z M K X) (hp:p = v * v' * q) :
  f.mul x y = some (bitsR S I 0 false (rowR B F 0 false M K X)):=by
 obtain ⟨m,a,e1,e2⟩:=hx
 obtain ⟨m',c,e3,e4⟩:=hy
 unfold Format.mul
 rw [e1,e3]
 show some (f.nearest false (m * m') (a+c)) = _
 have hm:∀ {m v:Nat} {i:Int},m * 2 ^ i.toNat = v * 2 ^ (-i).toNat→v≠0→m≠0:=fun {m v i} e hv hm=>by
  rw [hm,Nat.zero_mul] at e
  exact absurd e.symm (Nat.ne_of_gt (Nat.mul_pos (Nat.pos_of_ne_zero hv) (two_pos _)))
 have hv:v≠0:=fun e=>h0 (by rw [e,Nat.zero_mul])
 have hv':v'≠0:=fun e=>h0 (by rw [e,Nat.mul_zero])
 rw [near_exact hf hF h false (a+c) (mag:=m * m') (a:=a.toNat+c.toNat) (c:=(-a).toNat+(-c).toNat) (Nat.mul_ne_zero (hm e2 hv) (hm e4 hv')) ?_ (by omega)]
 rw [hp,Nat.pow_add,Nat.pow_add]
 have t1:m * m' * q * (2 ^ a.toNat * 2 ^ c.toNat) = (m * 2 ^ a.toNat) * (m' * 2 ^ c.toNat) * q:=by ac_rfl
 rw [t1,e2,e4]
 ac_rfl
theorem div_row {f:Format} {B F S I:Nat} (hf:Fmt f B F S I) (hF:F≤52) {x y v v':Nat} (hx:ExV f x v) (hy:ExV f y v') (h0:v * v'≠0) {p q d i j n b z M K:Nat} {X:Int} (h:Sti p q d i j n b z M K X) (hp:p * v' = v * q) :
  f.div x y = some (bitsR S I 0 false (rowR B F 0 false M K X)):=by
 obtain ⟨m,a,e1,e2⟩:=hx
 obtain ⟨m',c,e3,e4⟩:=hy
 have hm:∀ {m v:Nat} {i:Int},m * 2 ^ i.toNat = v * 2 ^ (-i).toNat→v≠0→m≠0:=fun {m v i} e hv hm=>by
  rw [hm,Nat.zero_mul] at e
  exact absurd e.symm (Nat.ne_of_gt (Nat.mul_pos (Nat.pos_of_ne_zero hv) (two_pos _)))
 have hv:v≠0:=fun e=>h0 (by rw [e,Nat.zero_mul])
 have hv':v'≠0:=fun e=>h0 (by rw [e,Nat.mul_zero])
 have hm0:=hm e2 hv
 have hm1:=hm e4 hv'
 unfold Format.div
 rw [e1,e3,hf.fr]
 simp only [Datum.quotient]
 rw [if_neg hm1,Nat.shiftLeft_eq]
 obtain ⟨w,hw⟩:∃ w,w = F+2+m'.log2 - m.log2:=⟨_,rfl⟩
 rw [← hw]
 show some (f.nearest false (2 * (m * 2 ^ w / m')+(m * 2 ^ w % m' != 0).toNat) (a - c - (w:Int) - 1)) = _
 have hbig:2 ^ (F+1)≤m * 2 ^ w / m':=by
  rw [Nat.le_div_iff_mul_le (by omega)]
  have g1:2 ^ m.log2≤m:=Nat.log2_self_le hm0
  have g2:m' < 2 ^ (m'.log2+1):=Nat.lt_log2_self
  have g3:2 ^ (F+1) * m'≤2 ^ (F+1) * 2 ^ (m'.log2+1):=Nat.mul_le_mul_left _ (by omega)
  rw [← Nat.pow_add] at g3
  have g4:2 ^ m.log2 * 2 ^ w≤m * 2 ^ w:=Nat.mul_le_mul_right _ g1
  rw [← Nat.pow_add] at g4
  have g5:2 ^ (F+1+(m'.log2+1))≤2 ^ (m.log2+w):=Nat.pow_le_pow_right (by omega) (by omega)
  omega
 rw [near_quot hf hF h false _ (N:=m * 2 ^ w) (e:=m') (a:=a.toNat+(-c).toNat) (c:=(-a).toNat+c.toNat+w) (by omega) ?_ (by omega) hbig]
 rw [Nat.pow_add,Nat.pow_add,Nat.pow_add]
 have t1:m * 2 ^ w * q * (2 ^ a.toNat * 2 ^ (-c).toNat) = (m * 2 ^ a.toNat) * (2 ^ w * q * 2 ^ (-c).toNat):=by ac_rfl
 have t2:p * m' * (2 ^ (-a).toNat * 2 ^ c.toNat * 2 ^ w) = (m' * 2 ^ c.toNat) * (p * (2 ^ (-a).toNat * 2 ^ w)):=by ac_rfl
 rw [t1,t2,e2,e4]
 have t3:v * 2 ^ (-a).toNat * (2 ^ w * q * 2 ^ (-c).toNat) = (v * q) * (2 ^ (-a).toNat * 2 ^ w * 2 ^ (-c).toNat):=by ac_rfl
 have t4:v' * 2 ^ (-c).toNat * (p * (2 ^ (-a).toNat * 2 ^ w)) = (p * v') * (2 ^ (-a).toNat * 2 ^ w * 2 ^ (-c).toNat):=by ac_rfl
 rw [t3,t4,hp]
theorem bitsR_sign (S I r:Nat):bitsR S I 0 true r = S+bitsR S I 0 false r:=by
 unfold bitsR
 show S+(if r < I then r else I) = S+(0+if r < I then r else I)
 rw [Nat.zero_add]
theorem bitsR_lt {S I r:Nat} (h:I < S):bitsR S I 0 false r < S:=by
 unfold bitsR
 show 0+(if r < I then r else I) < S
 split <;> omega
end Go.Proofs.YtdekhacomggpgaaGreatDoor
