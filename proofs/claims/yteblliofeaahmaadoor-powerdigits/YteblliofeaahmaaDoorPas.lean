/- Of what PowerDigitsRow stands on: PwMath. -/
import Derived.KernelRfl
namespace Go.Proofs.YteblliofeaahmaaDoor.PwM
theorem farey {p q p' q' n a:Nat} (hd:p' * q = p * q'+1) (hn:n < q+q') (h1:n * p < a * q) (h2:a * q' < n * p'):False:=by
 have e1:n = q * (n * p' - a * q')+q' * (a * q - n * p):=by
  have a1:q * (n * p' - a * q') = n * (p' * q) - a * q' * q:=by rw [Nat.mul_sub]; congr 1 <;> ac_rfl
  have a2:q' * (a * q - n * p) = a * q' * q - n * (p * q'):=by rw [Nat.mul_sub]; congr 1 <;> ac_rfl
  have a3:a * q' * q≤n * (p' * q):=by
   have:=Nat.mul_le_mul_right q (Nat.le_of_lt h2); calc a * q' * q≤n * p' * q:=this
    _ = n * (p' * q):=by ac_rfl
  have a4:n * (p * q')≤a * q' * q:=by
   have:=Nat.mul_le_mul_right q' (Nat.le_of_lt h1); calc n * (p * q') = n * p * q':=by ac_rfl
    _≤a * q * q':=this
    _ = a * q' * q:=by ac_rfl
  have a5:n * (p' * q) = n * (p * q')+n:=by rw [hd,Nat.mul_add,Nat.mul_one]
  rw [a1,a2]; omega
 have b1:q * 1≤q * (n * p' - a * q'):=Nat.mul_le_mul_left q (by omega)
 have b2:q' * 1≤q' * (a * q - n * p):=Nat.mul_le_mul_left q' (by omega)
 omega
theorem pow_low {p q n a:Nat} (hq:0 < q) (h:10 ^ p≤2 ^ q) (hle:a * q≤n * p):10 ^ a≤2 ^ n:=by
 have h1:(10 ^ a) ^ q≤(2 ^ n) ^ q:=by
  rw [← Nat.pow_mul,← Nat.pow_mul]
  calc 10 ^ (a * q)≤10 ^ (n * p):=Nat.pow_le_pow_right (by decide) hle
   _ = (10 ^ p) ^ n:=by rw [← Nat.pow_mul,Nat.mul_comm]
   _≤(2 ^ q) ^ n:=Nat.pow_le_pow_left h n
   _ = 2 ^ (n * q):=by rw [← Nat.pow_mul,Nat.mul_comm]
 exact (Nat.pow_le_pow_iff_left (Nat.pos_iff_ne_zero.1 hq)).1 h1
theorem pow_high {p q n a:Nat} (hq:0 < q) (h:2 ^ q≤10 ^ p) (hle:n * p≤a * q):2 ^ n≤10 ^ a:=by
 have h1:(2 ^ n) ^ q≤(10 ^ a) ^ q:=by
  rw [← Nat.pow_mul,← Nat.pow_mul]
  calc 2 ^ (n * q) = (2 ^ q) ^ n:=by rw [← Nat.pow_mul,Nat.mul_comm]
   _≤(10 ^ p) ^ n:=Nat.pow_le_pow_left h n
   _ = 10 ^ (n * p):=by rw [← Nat.pow_mul,Nat.mul_comm]
   _≤10 ^ (a * q):=Nat.pow_le_pow_right (by decide) hle
 exact (Nat.pow_le_pow_iff_left (Nat.pos_iff_ne_zero.1 hq)).1 h1
theorem ne_ten (n a:Nat):2 ^ n≠10 ^ (a+1):=by
 intro h
 have h5:5 ∣ 2 ^ n:=by rw [h]; exact ⟨10 ^ a * 2,by rw [Nat.pow_succ]; omega⟩
 have hc:Nat.Coprime 5 (2 ^ n):=Nat.Coprime.pow_right n (by decide)
 have:=Nat.Coprime.eq_one_of_dvd hc h5
 omega
def lowb (p q:Nat):Bool:=Nat.ble (10 ^ p) (2 ^ q)
def highb (p q:Nat):Bool:=Nat.ble (2 ^ q) (10 ^ p)
theorem digits_of {p q p' q' L M n N:Nat} (hd:p' * q = p * q'+1) (hN:N < q+q') (hn:n≤N) (hM:0 < M) (hq:0 < q) (hq':0 < q') (h1:lowb p q = true) (h2:highb p' q' = true) (l1:p * M≤L * q) (l2:L * q' < p' * M) :
  10 ^ (n * L / M)≤2 ^ n∧2 ^ n < 10 ^ (n * L / M+1):=by
 generalize ha:n * L / M = a
 have r1:a * M≤n * L:=by rw [← ha]; exact Nat.div_mul_le_self _ _
 have r2:n * L < (a+1) * M:=by rw [← ha]; have:=Nat.lt_div_mul_add (a:=n * L) hM; rw [Nat.add_mul,Nat.one_mul]; exact this
 rcases Nat.eq_zero_or_pos n with h0|h0
 ·subst h0; simp at ha; subst ha; exact ⟨by decide,by decide⟩
 constructor
 ·refine pow_low hq (Nat.le_of_ble_eq_true h1) ?_
  refine Nat.le_of_not_lt fun hc=>farey hd (Nat.lt_of_le_of_lt hn hN) hc ?_
  have s1:a * q' * M < n * p' * M:=by
   calc a * q' * M = a * M * q':=by ac_rfl
    _≤n * L * q':=Nat.mul_le_mul_right _ r1
    _ = n * (L * q'):=by ac_rfl
    _ < n * (p' * M):=Nat.mul_lt_mul_of_pos_left l2 h0
    _ = n * p' * M:=by ac_rfl
  exact Nat.lt_of_mul_lt_mul_right s1
 ·refine Nat.lt_of_le_of_ne (pow_high hq' (Nat.le_of_ble_eq_true h2) ?_) (ne_ten n a)
  refine Nat.le_of_not_lt fun hc=>farey hd (Nat.lt_of_le_of_lt hn hN) ?_ hc
  have s1:n * p * M < (a+1) * q * M:=by
   calc n * p * M = n * (p * M):=by ac_rfl
    _≤n * (L * q):=Nat.mul_le_mul_left _ l1
    _ = n * L * q:=by ac_rfl
    _ < (a+1) * M * q:=Nat.mul_lt_mul_of_pos_right r2 hq
    _ = (a+1) * q * M:=by ac_rfl
  exact Nat.lt_of_mul_lt_mul_right s1
theorem c1:lowb 8651 28738 = true:=by kernel_rfl
theorem c2:highb 12655 42039 = true:=by kernel_rfl
theorem digits_two (n:Nat) (hn:n≤65536):10 ^ (n * 5553023288523357132 / 18446744073709551616)≤2 ^ n∧2 ^ n < 10 ^ (n * 5553023288523357132 / 18446744073709551616+1):=
 digits_of (p:=8651) (q:=28738) (p':=12655) (q':=42039) (N:=65536) (by decide) (by decide) hn (by decide) (by decide) (by decide) c1 c2 (by decide) (by decide)
end Go.Proofs.YteblliofeaahmaaDoor.PwM
