/- Of what DecNearRow stands on: DcTextsLaw DcNearLaw. -/
import Derived.Test.YtbblodioaedckaaGreatPbh
import Derived.Test.YtbblodioaedckaaGreatPbl
import Derived.Test.YtbblodioaedckaaGreatPbm
import Derived.Lib.ItoaLen
import Derived.Test.YtbblodioaedckaaGreatPbi
import Derived.Test.YtbblodioaedckaaGreatPbk
namespace Go.Proofs.YtbblodioaedckaaGreat
open Go.RowKit
theorem ddig_f {s:ByteArray} (hm:s.size≤65536) (hd:¬ AllD s s.size) (W:World):Calls Tryz.prog 63 #[.string s] W fun e W'=>e = .returned (.bool false)∧Below W.heap.size W W':=
 (allDigits_any s W hm).mono fun e W' ⟨h,hb⟩=>⟨by
  rcases h with ⟨_,h⟩|⟨h,_⟩
  ·exact absurd h hd
  ·exact h,hb⟩
theorem dcheck_full (g:Bool) (s:ByteArray) (x:Int):∃ e:Int,(e≠0∨(e = 0∧s.size≤65536∧AllD s s.size∧-1073741824≤x∧x≤1073741824∧(s.size = 0→x = 0)∧(∀ h:0 < s.size,(s[0]'h).toNat≠48)∧∀ k,(h:k+1 = s.size)→(s[k]'(by omega)).toNat≠48)) ∧
  ∀ W:World,Calls Tryz.prog 25 #[.agg #[.bool g,.string s,.int .i64 x]] W fun en W'=>en = .returned (.int .i64 e)∧Below W.heap.size W W':=by
 by_cases hm:65536 < s.size
 ·exact ⟨4,Or.inl (by decide),fun W=>dck_many W g s x hm⟩
 have hm':s.size≤65536:=by omega
 by_cases hz:s.size = 0
 ·by_cases hx:x = 0
  ·exact ⟨0,Or.inr ⟨rfl,hm',fun j hj _=>absurd hj (by omega),by omega,by omega,fun _=>hx,fun h=>absurd h (by omega),fun k h=>absurd h (by omega)⟩,fun W=>dck_z0 W g s x hm' hz hx⟩
  ·exact ⟨100,Or.inl (by decide),fun W=>dck_z1 W g s x hm' hz hx⟩
 obtain ⟨f,t,he,hft,HE⟩:=ends_fix s hm'
 have hhi:=he.hi
 by_cases hf:0 < f
 ·exact ⟨100,Or.inl (by decide),fun W=>dck_b1 W g s x f t hm' hz (hide HE) hf⟩
 by_cases ht:t < s.size
 ·exact ⟨100,Or.inl (by decide),fun W=>dck_b2 W g s x f t hm' hz (hide HE) (by omega) ht⟩
 by_cases hd:AllD s s.size
 case neg=>exact ⟨100,Or.inl (by decide),fun W=>dck_b3 W g s x f t hm' hz (hide HE) (by omega) (by omega) (hide (ddig_f hm' hd))⟩
 have hlt:f < t:=by omega
 have h0:f = 0:=by omega
 subst h0
 by_cases hx:x < -1073741824∨1073741824 < x
 ·refine ⟨100,Or.inl (by decide),fun W=>dck_b4 W g s x 0 t hm' hz (hide HE) rfl (by omega) (hide (ddig_t hm' hd)) (hide fun W=>?_)⟩
  by_cases h1:x < -1073741824
  ·exact bey_lo W x h1
  ·exact bey_hi W x (by omega) (by omega)
 ·refine ⟨0,Or.inr ⟨rfl,hm',hd,by omega,by omega,fun h=>absurd h hz,fun h=>he.one hlt h,fun k h=>?_⟩,fun W=>dck_ok W g s x 0 t hm' hz (hide HE) rfl (by omega) (hide (ddig_t hm' hd)) (hide fun W=>bey_in W x (by omega) (by omega))⟩
  have h1:t = k+1:=by omega
  subst h1
  exact he.two hlt (by omega)
theorem decNear_any (g:Bool) (s:ByteArray) (x n:Int) (md:Nat) (w:World) :
  Calls Tryz.prog 5 #[.agg #[.bool g,.string s,.int .i64 x],.int .i64 n,.int .u8 (md:Int)] w fun e w'=>e = .returned (.bool true)∧Below w.heap.size w w':=by
 have HA:=hide dalive_any
 obtain ⟨e,h,h1⟩:=dcheck_full g s x
 rcases h with h|⟨rfl,hm,hd,hx0,hx1,hz,ha,hb⟩
 ·exact nrl_c w g s x n md HA (hide fun W=>cl_e W g s x e h (hide h1))
 by_cases c1:3000 < s.size
 ·exact nrl_c w g s x n md HA (hide fun W=>cl_1 W g s x c1 (hide h1))
 by_cases c2:3000 < x
 ·exact nrl_c w g s x n md HA (hide fun W=>cl_2 W g s x (by omega) c2 (hide h1))
 by_cases c3:x < -3000
 ·exact nrl_c w g s x n md HA (hide fun W=>cl_3 W g s x (by omega) c3 (hide h1))
 have HC:=hide fun W=>cl_ok W g s x (by omega) (by omega) (by omega) (hide h1)
 by_cases n1:n < 1
 ·exact nrl_l w g s x n md HA HC n1
 by_cases n2:2000 < n
 ·exact nrl_g w g s x n md HA HC n2
 by_cases n3:4 < md
 ·exact nrl_m w g s x n md HA HC (by omega) (by omega) n3
 obtain ⟨k,rfl⟩:∃ k:Nat,n = (k:Int):=⟨n.toNat,by omega⟩
 have hok:DcOk s x:=⟨hm,hd,hx0,hx1,hz,ha,cd_of hd hb⟩
 obtain ⟨s1,y1,b1,b3,q1,_,q2,q3,q4,q5⟩:=round_leaf g s x k md hok (by omega) (by omega) (by omega) (by omega) (by omega) (by omega)
 obtain ⟨s2,y2,b2,b4,_,r2,r3,r4,r5⟩:=places_leaf g s x k md hok (by omega) (by omega) (by omega) (by omega) (by omega)
 by_cases hm3:md < 3
 ·rw [show mirM md = md from if_pos hm3] at q4 r4
  cases g
  ·exact nrl_fl w s x k md s1 y1 s2 y2 b1 b2 b3 b4 _ _ (by omega) (by omega) (by omega) (by omega) (by omega) (by omega) q1 rfl rfl hm3 HA HC (hide q2) (hide r2) (hide q4) (hide r4) (hide q5) (hide r5) (hide q3) (hide r3)
  ·exact nrl_tl w s x k md s1 y1 s2 y2 b1 b2 b3 b4 _ _ (by omega) (by omega) (by omega) (by omega) (by omega) (by omega) q1 rfl rfl hm3 HA HC (hide q2) (hide r2) (hide q4) (hide r4) (hide q5) (hide r5) (hide q3) (hide r3)
 ·rw [show mirM md = 7 - md from if_neg hm3] at q4 r4
  cases g
  ·exact nrl_fh w s x k md _ s1 y1 s2 y2 b1 b2 b3 b4 _ _ (by omega) (by omega) (by omega) (by omega) (by omega) (by omega) q1 rfl rfl (by omega) rfl HA HC (hide q2) (hide r2) (hide q4) (hide r4) (hide q5) (hide r5) (hide q3) (hide r3)
  ·exact nrl_th w s x k md _ s1 y1 s2 y2 b1 b2 b3 b4 _ _ (by omega) (by omega) (by omega) (by omega) (by omega) (by omega) q1 rfl rfl (by omega) rfl HA HC (hide q2) (hide r2) (hide q4) (hide r4) (hide q5) (hide r5) (hide q3) (hide r3)
end Go.Proofs.YtbblodioaedckaaGreat
