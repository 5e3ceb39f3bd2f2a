/- Of what DecBackRow stands on: DcTextsLaw. -/
import Derived.Test.YtpmmapoabbpaiaaGreatPbj
import Derived.Test.YtpmmapoabbpaiaaGreatPbq
import Derived.Test.YtpmmapoabbpaiaaGreatPbr
import Derived.Lib.ItoaLen
namespace Go.Proofs.YtpmmapoabbpaiaaGreat
open Go.RowKit
theorem ddig_f {s:ByteArray} (hm:s.size≤65536) (hd:¬ AllD s s.size) (W:World):Calls Tryz.prog 60 #[.string s] W fun e W'=>e = .returned (.bool false)∧Below W.heap.size W W':=
 (allDigits_any s W hm).mono fun e W' ⟨h,hb⟩=>⟨by
  rcases h with ⟨_,h⟩|⟨h,_⟩
  ·exact absurd h hd
  ·exact h,hb⟩
theorem dcheck_full (g:Bool) (s:ByteArray) (x:Int):∃ e:Int,(e≠0∨(e = 0∧s.size≤65536∧AllD s s.size∧-1073741824≤x∧x≤1073741824∧(s.size = 0→x = 0)∧(∀ h:0 < s.size,(s[0]'h).toNat≠48)∧∀ k,(h:k+1 = s.size)→(s[k]'(by omega)).toNat≠48)) ∧
  ∀ W:World,Calls Tryz.prog 23 #[.agg #[.bool g,.string s,.int .i64 x]] W fun en W'=>en = .returned (.int .i64 e)∧Below W.heap.size W W':=by
 by_cases hm:65536 < s.size
 ·exact ⟨4,Or.inl (by decide),fun W=>dck_many W g s x hm⟩
 have hm':s.size≤65536:=by omega
 by_cases hz:s.size = 0
 ·by_cases hx:x = 0
  ·exact ⟨0,Or.inr ⟨rfl,hm',fun j hj _=>absurd hj (by omega),by omega,by omega,fun _=>hx,fun h=>absurd h (by omega),fun k h=>absurd h (by omega)⟩,fun W=>dck_z0 W g s x hm' hz hx⟩
  ·exact ⟨100,Or.inl (by decide),fun W=>dck_z1 W g s x hm' hz hx⟩
 obtain ⟨f,t,he,hft,HE⟩:=ends_fix s hm'
 have hhi:=he.hi
 by_cases hf:0 < f
 ·exact ⟨100,Or.inl (by decide),fun W=>dck_b1 W g s x f t hm' hz (hide HE) hf⟩
 by_cases ht:t < s.size
 ·exact ⟨100,Or.inl (by decide),fun W=>dck_b2 W g s x f t hm' hz (hide HE) (by omega) ht⟩
 by_cases hd:AllD s s.size
 case neg=>exact ⟨100,Or.inl (by decide),fun W=>dck_b3 W g s x f t hm' hz (hide HE) (by omega) (by omega) (hide (ddig_f hm' hd))⟩
 have hlt:f < t:=by omega
 have h0:f = 0:=by omega
 subst h0
 by_cases hx:x < -1073741824∨1073741824 < x
 ·refine ⟨100,Or.inl (by decide),fun W=>dck_b4 W g s x 0 t hm' hz (hide HE) rfl (by omega) (hide (ddig_t hm' hd)) (hide fun W=>?_)⟩
  by_cases h1:x < -1073741824
  ·exact bey_lo W x h1
  ·exact bey_hi W x (by omega) (by omega)
 ·refine ⟨0,Or.inr ⟨rfl,hm',hd,by omega,by omega,fun h=>absurd h hz,fun h=>he.one hlt h,fun k h=>?_⟩,fun W=>dck_ok W g s x 0 t hm' hz (hide HE) rfl (by omega) (hide (ddig_t hm' hd)) (hide fun W=>bey_in W x (by omega) (by omega))⟩
  have h1:t = k+1:=by omega
  subst h1
  exact he.two hlt (by omega)
theorem says_self {s:ByteArray} (hd:AllD s s.size) (h0:0 < s.size) (ha:∀ h:0 < s.size,(s[0]'h).toNat≠48) (hb:∀ k,(h:k+1 = s.size)→(s[k]'(by omega)).toNat≠48):Says s (valS s)∧valS s % 10≠0:=by
 obtain ⟨q,hq⟩:∃ q,q+1 = s.size:=⟨s.size - 1,by omega⟩
 have hE:Ends s 0 (q+1):=⟨by omega,by omega,fun j _ h=>by omega,fun j h h2=>by omega,fun _ h=>ha h,fun _ h=>hb q hq⟩
 obtain ⟨n,z,hz,hv,h10,hS⟩:=core_of hd hE (Nat.zero_le _)
 have hz0:z = 0:=by omega
 subst hz0
 have hvn:valS s = n:=by simpa using hv
 rw [hvn]
 have he:s.extract 0 (q+1) = s:=by rw [hq,ByteArray.extract_zero_size]
 rw [he] at hS
 exact ⟨hS,h10⟩
end Go.Proofs.YtpmmapoabbpaiaaGreat
