/- Of what QuickRightRow stands on: ExMul ExValue ExWo. -/
import Derived.Test.YtdekhacomggpgaaGreatDoorPba
import Derived.Test.YtdekhacomggpgaaGreatDoorPbb
import Derived.Test.YtdekhacomggpgaaGreatDoorPag
import Derived.Test.YtdekhacomggpgaaGreatDoorPab
namespace Go.Proofs.YtdekhacomggpgaaGreatDoor
open Go.RowKit
structure Wo (E F B ex fr M z:Nat) (xe:Int):Prop where
 tz:Tz M z
 part:(ex = 0∧M = fr∧0 < fr∧xe = 1 - (B:Int) - (F:Int))∨(0 < ex∧M = fr+2 ^ F∧xe = 1 - (B:Int) - (F:Int)+((ex:Int) - 1))
 fin:ex+1 < 2 ^ E
 frl:fr < 2 ^ F
theorem tz_ex {M f:Nat} (h0:0 < M) (h:M < 2 ^ f):∃ z,Tz M z∧z < f:=by
 obtain ⟨q,hq,hz⟩:=Lib.ctzFrom_spec f M h0 h
 exact ⟨_,⟨q,hq⟩,hz⟩
theorem Wo.ex {E F B ex fr:Nat} (hfin:ex+1 < 2 ^ E) (hfr:fr < 2 ^ F) (hne:¬ (ex = 0∧fr = 0)):∃ M z xe,Wo E F B ex fr M z xe:=by
 by_cases h:ex = 0
 ·obtain ⟨z,hz,_⟩:=tz_ex (M:=fr) (by omega) hfr
  exact ⟨fr,z,_,hz,Or.inl ⟨h,rfl,by omega,rfl⟩,hfin,hfr⟩
 ·obtain ⟨z,hz,_⟩:=tz_ex (M:=fr+2 ^ F) (f:=F+1) (by omega) (by rw [Nat.pow_succ]; omega)
  exact ⟨fr+2 ^ F,z,_,hz,Or.inr ⟨by omega,rfl,rfl⟩,hfin,hfr⟩
theorem Wo.pos {E F B ex fr M z:Nat} {xe:Int} (h:Wo E F B ex fr M z xe):0 < M:=by
 have:=pow_pos2 F
 rcases h.part with ⟨_,h1,h2,_⟩|⟨_,h1,_⟩ <;> omega
theorem Wo.lt {E F B ex fr M z:Nat} {xe:Int} (h:Wo E F B ex fr M z xe):M < 2 ^ (F+1):=by
 have:=h.frl
 rw [Nat.pow_succ]
 rcases h.part with ⟨_,h1,h2,_⟩|⟨_,h1,_⟩ <;> omega
theorem Wo.odd {E F B ex fr M z:Nat} {xe:Int} (h:Wo E F B ex fr M z xe):(M / 2 ^ z) % 2 = 1∧M / 2 ^ z * 2 ^ z = M:=h.tz.down
theorem Wo.range {E F B ex fr M z:Nat} {xe:Int} (h:Wo E F B ex fr M z xe) (h0:Fo E F) (HB:Hid (B = 2 ^ (E - 1) - 1)):-2048≤xe∧xe+(F:Int)≤(B:Int)∧B≤1023:=by
 have h1:=B_le h0 HB
 have h2:=(B_two h0 HB).1
 have h3:=(B_two h0 HB).2
 have h4:=h.fin
 have h5:=h0.f52
 rcases h.part with ⟨_,_,_,h6⟩|⟨_,_,h6⟩ <;> omega
theorem Wo.bits {E F B ex fr M z:Nat} {xe:Int} (h:Wo E F B ex fr M z xe) {k:Nat} (hk:Bl (M / 2 ^ z) k):0 < k∧(ex = 0→k+z≤F)∧(0 < ex→k+z = F+1):=by
 obtain ⟨ho,hm⟩:=h.odd
 have hM0:=h.pos
 have hfr:=h.frl
 have hk0:0 < k:=by
  rcases Nat.eq_zero_or_pos k with h3|h3
  ·subst h3; have:=hk.1; rw [Nat.pow_zero] at this; exact absurd ho (by rw [Nat.lt_one_iff.1 this]; decide)
  ·exact h3
 have h1:M < 2 ^ (k+z):=by
  rw [← hm,Nat.pow_add]; exact Nat.mul_lt_mul_of_pos_right hk.1 (pow_pos2 z)
 have h2:2 ^ (k - 1+z)≤M:=by
  rcases hk.2 with h3|h3
  ·omega
  ·rw [← hm,Nat.pow_add]; exact Nat.mul_le_mul_right _ h3
 refine ⟨hk0,fun he=>?_,fun he=>?_⟩
 ·rcases h.part with ⟨_,h4,_,_⟩|⟨h4,_⟩
  ·have h5:2 ^ (k - 1+z) < 2 ^ F:=by omega
   have:=(Nat.pow_lt_pow_iff_right (by decide:1 < 2)).1 h5
   omega
  ·omega
 ·rcases h.part with ⟨h4,_⟩|⟨_,h4,_⟩
  ·omega
  ·have h5:2 ^ (k - 1+z) < 2 ^ (F+1):=by rw [Nat.pow_succ]; omega
   have h6:2 ^ F < 2 ^ (k+z):=by omega
   have h7:=(Nat.pow_lt_pow_iff_right (by decide:1 < 2)).1 h5
   have h8:=(Nat.pow_lt_pow_iff_right (by decide:1 < 2)).1 h6
   omega
theorem Wo.inj {E F B ex fr M z ex' fr' M' z':Nat} {xe xe':Int} (h:Wo E F B ex fr M z xe) (h':Wo E F B ex' fr' M' z' xe') (hm:M / 2 ^ z = M' / 2 ^ z') (hx:xe+(z:Int) = xe'+(z':Int)):ex = ex'∧fr = fr':=by
 obtain ⟨k,hk⟩:=bl_ex (M / 2 ^ z)
 have hk':=hk
 rw [hm] at hk'
 obtain ⟨_,h1,h2⟩:=h.bits hk
 obtain ⟨_,h1',h2'⟩:=h'.bits hk'
 have hxe:xe = xe':=by
  rcases h.part with ⟨a1,_,_,a2⟩|⟨a1,_,a2⟩ <;> rcases h'.part with ⟨b1,_,_,b2⟩|⟨b1,_,b2⟩
  ·omega
  ·have:=h1 a1; have:=h2' b1; omega
  ·have:=h2 a1; have:=h1' b1; omega
  ·have:=h2 a1; have:=h2' b1; omega
 have hzz:z = z':=by omega
 have hMM:M = M':=by
  have e1:=h.odd.2
  have e2:=h'.odd.2
  rw [← e1,← e2,hm,hzz]
 have hfr:=h.frl
 have hfr':=h'.frl
 rcases h.part with ⟨a1,a3,_,a2⟩|⟨a1,a3,a2⟩ <;> rcases h'.part with ⟨b1,b3,_,b2⟩|⟨b1,b3,b2⟩ <;> omega
end Go.Proofs.YtdekhacomggpgaaGreatDoor
