/- Of what DecRoundsRow stands on: DcRoundsLaw. -/
import Derived.Test.YtmmkefdbdpfpdaaPay
import Derived.Test.YtmmkefdbdpfpdaaPba
namespace Go.Proofs.Ytmmkefdbdpfpdaa
open Go.RowKit
theorem ends_fix (s:ByteArray) (hm:s.size≤65536):∃ f t:Nat,Ends s f t∧(f < t∨(f = 0∧t = 0))∧∀ W:World,Calls Try.prog 35 #[.string s] W fun e W'=>e = .returned (.tuple #[.int .i64 (f:Int),.int .i64 (t:Int)])∧Below W.heap.size W W':=by
 by_cases hz:∀ (j:Nat) (hj:j < s.size),(s[j]'hj).toNat = 48
 ·refine ⟨0,0,⟨Nat.le_refl _,Nat.zero_le _,fun j _ h=>absurd h (Nat.not_lt_zero _),fun j h _=>hz j h,fun h=>absurd h (Nat.lt_irrefl _),fun h=>absurd h (Nat.lt_irrefl _)⟩,Or.inr ⟨rfl,rfl⟩,fun W=>(ends_any s W hm).mono fun e W' ⟨⟨f,t,h1,h2,h3⟩,hb⟩=>?_⟩
  rcases h3 with h3|⟨rfl,rfl⟩
  ·have:=h2.hi
   exact absurd (hz f (by omega)) (h2.one h3 (by omega))
  ·exact ⟨h1,hb⟩
 ·obtain ⟨f,q,hfq,he⟩:=Ends.ex hz
  refine ⟨f,q+1,he,Or.inl (by omega),fun W=>(ends_any s W hm).mono fun e W' ⟨⟨f',t',h1,h2,h3⟩,hb⟩=>?_⟩
  obtain ⟨rfl,rfl⟩:=he.uniq h2 (by omega)
  exact ⟨h1,hb⟩
theorem dig_t {s:ByteArray} (hm:s.size≤65536) (hd:AllD s s.size) (W:World):(Calls Try.prog 34 #[.string s] W fun e W'=>e = .returned (.bool true)∧Below W.heap.size W W')∧Calls Try.prog 42 #[.string s] W fun e W'=>e = .returned (.bool true)∧Below W.heap.size W W':=by
 constructor
 ·refine (allDigits_any s W hm).mono fun e W' ⟨h,hb⟩=>?_
  rcases h with ⟨h,_⟩|⟨_,h⟩
  ·exact ⟨h,hb⟩
  ·exact absurd hd h
 ·refine (rdigits_any s W hm).mono fun e W' ⟨h,hb⟩=>?_
  rcases h with ⟨h,_⟩|⟨_,h⟩
  ·exact ⟨h,hb⟩
  ·exact absurd hd h
theorem dig_f {s:ByteArray} (hm:s.size≤65536) (hd:¬ AllD s s.size) (W:World):(Calls Try.prog 34 #[.string s] W fun e W'=>e = .returned (.bool false)∧Below W.heap.size W W')∧Calls Try.prog 42 #[.string s] W fun e W'=>e = .returned (.bool false)∧Below W.heap.size W W':=by
 constructor
 ·refine (allDigits_any s W hm).mono fun e W' ⟨h,hb⟩=>?_
  rcases h with ⟨_,h⟩|⟨h,_⟩
  ·exact absurd h hd
  ·exact ⟨h,hb⟩
 ·refine (rdigits_any s W hm).mono fun e W' ⟨h,hb⟩=>?_
  rcases h with ⟨_,h⟩|⟨h,_⟩
  ·exact absurd h hd
  ·exact ⟨h,hb⟩
theorem far_t {x:Int} (h:x < -1073741824∨1073741824 < x) (W:World):(Calls Try.prog 41 #[.int .i64 x] W fun e W'=>e = .returned (.bool true)∧Below W.heap.size W W')∧Calls Try.prog 43 #[.int .i64 x] W fun e W'=>e = .returned (.bool true)∧Below W.heap.size W W':=by
 constructor
 ·by_cases h1:x < -1073741824
  ·exact bey_lo W x h1
  ·exact bey_hi W x (by omega) (by omega)
 ·refine (far_is x W).mono fun e W' ⟨h1,hb⟩=>⟨?_,hb⟩
  rw [h1,show (decide (x < -1073741824) || decide (1073741824 < x)) = true from by simpa using h]
theorem far_f {x:Int} (h:¬ (x < -1073741824∨1073741824 < x)) (W:World):(Calls Try.prog 41 #[.int .i64 x] W fun e W'=>e = .returned (.bool false)∧Below W.heap.size W W')∧Calls Try.prog 43 #[.int .i64 x] W fun e W'=>e = .returned (.bool false)∧Below W.heap.size W W':=by
 constructor
 ·exact bey_in W x (by omega) (by omega)
 ·refine (far_is x W).mono fun e W' ⟨h1,hb⟩=>⟨?_,hb⟩
  rw [h1,show (decide (x < -1073741824) || decide (1073741824 < x)) = false from by simp; omega]
theorem check_both (g:Bool) (s:ByteArray) (x:Int):∃ e:Int,(e≠0∨(e = 0∧s.size≤65536∧AllD s s.size∧-1073741824≤x∧x≤1073741824∧(s.size = 0→x = 0))) ∧
  (∀ W:World,Calls Try.prog 16 #[.agg #[.bool g,.string s,.int .i64 x]] W fun en W'=>en = .returned (.int .i64 e)∧Below W.heap.size W W') ∧
  ∀ W:World,Calls Try.prog 23 #[.agg #[.bool g,.string s,.int .i64 x]] W fun en W'=>en = .returned (.int .i64 e)∧Below W.heap.size W W':=by
 by_cases hm:65536 < s.size
 ·exact ⟨4,Or.inl (by decide),fun W=>dck_many W g s x hm,fun W=>rck_many W g s x hm⟩
 have hm':s.size≤65536:=by omega
 by_cases hz:s.size = 0
 ·by_cases hx:x = 0
  ·exact ⟨0,Or.inr ⟨rfl,hm',fun j hj _=>absurd hj (by omega),by omega,by omega,fun _=>hx⟩,fun W=>dck_z0 W g s x hm' hz hx,fun W=>rck_z0 W g s x hm' hz hx⟩
  ·exact ⟨100,Or.inl (by decide),fun W=>dck_z1 W g s x hm' hz hx,fun W=>rck_z1 W g s x hm' hz hx⟩
 obtain ⟨f,t,he,hft,HE⟩:=ends_fix s hm'
 have hhi:=he.hi
 obtain ⟨k,hk⟩:∃ k,k+1 = s.size:=⟨s.size - 1,by omega⟩
 by_cases hd:AllD s s.size
 case neg=>
  refine ⟨100,Or.inl (by decide),fun W=>?_,fun W=>rck_b1 W g s x hm' hz (hide fun W=>(dig_f hm' hd W).2)⟩
  by_cases hf:0 < f
  ·exact dck_b1 W g s x f t hm' hz (hide HE) hf
  ·by_cases ht:t < s.size
   ·exact dck_b2 W g s x f t hm' hz (hide HE) (by omega) ht
   ·exact dck_b3 W g s x f t hm' hz (hide HE) (by omega) (by omega) (hide fun W=>(dig_f hm' hd W).1)
 have HD:=hide fun W=>(dig_t hm' hd W).2
 by_cases hf:0 < f
 ·exact ⟨100,Or.inl (by decide),fun W=>dck_b1 W g s x f t hm' hz (hide HE) hf,fun W=>rck_b2 W g s x 48 hm' hz HD (fun h=>he.lo 0 h hf) rfl⟩
 by_cases ht:t < s.size
 ·refine ⟨100,Or.inl (by decide),fun W=>dck_b2 W g s x f t hm' hz (hide HE) (by omega) ht,fun W=>?_⟩
  have hl:∀ h:k < s.size,(s[k]'h).toNat = 48:=fun h=>he.up k h (by omega)
  by_cases ha:(s[0]'(by omega)).toNat = 48
  ·exact rck_b2 W g s x 48 hm' hz HD (fun _=>ha) rfl
  ·exact rck_b3 W g s x _ k 48 hm' hz HD (fun _=>rfl) ha hk hl rfl
 have hlt:f < t:=by omega
 have ha:(s[0]'(by omega)).toNat≠48:=by
  have h0:f = 0:=by omega
  subst h0
  exact he.one hlt (by omega)
 have hb:(s[k]'(by omega)).toNat≠48:=by
  have h0:t = k+1:=by omega
  subst h0
  exact he.two hlt (by omega)
 by_cases hx:x < -1073741824∨1073741824 < x
 ·exact ⟨100,Or.inl (by decide),fun W=>dck_b4 W g s x f t hm' hz (hide HE) (by omega) (by omega) (hide fun W=>(dig_t hm' hd W).1) (hide fun W=>(far_t hx W).1),fun W=>rck_b4 W g s x _ k _ hm' hz HD (fun _=>rfl) ha hk (fun _=>rfl) hb (hide fun W=>(far_t hx W).2)⟩
 ·exact ⟨0,Or.inr ⟨rfl,hm',hd,by omega,by omega,fun h=>absurd h hz⟩,fun W=>dck_ok W g s x f t hm' hz (hide HE) (by omega) (by omega) (hide fun W=>(dig_t hm' hd W).1) (hide fun W=>(far_f hx W).1),fun W=>rck_ok W g s x _ k _ hm' hz HD (fun _=>rfl) ha hk (fun _=>rfl) hb (hide fun W=>(far_f hx W).2)⟩
theorem round_both (g:Bool) (s:ByteArray) (x n:Int) (md:Nat):∃ (g1:Bool) (s1:ByteArray) (x1:Int) (b1:Bool) (e1:Int),
  (∀ W:World,Calls Try.prog 13 #[.agg #[.bool g,.string s,.int .i64 x],.int .i64 n,.int .u8 (md:Int)] W fun e W'=>e = .returned (.tuple #[.agg #[.bool g1,.string s1,.int .i64 x1],.bool b1,.int .i64 e1])∧Below W.heap.size W W') ∧
  ∀ W:World,Calls Try.prog 24 #[.agg #[.bool g,.string s,.int .i64 x],.int .i64 n,.int .u8 (md:Int)] W fun e W'=>e = .returned (.tuple #[.agg #[.bool g1,.string s1,.int .i64 x1],.bool b1,.int .i64 e1])∧Below W.heap.size W W':=by
 obtain ⟨e,he,H1,H2⟩:=check_both g s x
 rcases he with he|⟨rfl,hm,hd,hx0,hx1,hz0⟩
 ·exact ⟨_,_,_,_,_,fun W=>dround_err W g s x n md e he (hide fun W=>ask_e W g s x n 1 md e he (hide H1)),fun W=>rround_err W g s x n md e he (hide H2)⟩
 by_cases h1:n < 1
 ·exact ⟨_,_,_,_,_,fun W=>dround_err W g s x n md 101 (by decide) (hide fun W=>ask_lo W g s x n 1 md h1 (hide H1)),fun W=>rround_lo W g s x n md h1 (hide H2)⟩
 by_cases h2:2000 < n
 ·exact ⟨_,_,_,_,_,fun W=>dround_err W g s x n md 101 (by decide) (hide fun W=>ask_hi W g s x n 1 md (by omega) h2 (hide H1)),fun W=>rround_hi W g s x n md (by omega) h2 (hide H2)⟩
 by_cases h3:4 < md
 ·exact ⟨_,_,_,_,_,fun W=>dround_err W g s x n md 7 (by decide) (hide fun W=>ask_md W g s x n 1 md (by omega) (by omega) h3 (hide H1)),fun W=>rround_md W g s x n md (by omega) (by omega) h3 (hide H2)⟩
 have HK:=hide fun W=>ask_ok W g s x n 1 md (by omega) (by omega) (by omega) (hide H1)
 by_cases h4:(s.size:Int)≤n
 ·exact ⟨_,_,_,_,_,fun W=>dround_go W g s x n md ((s.size:Int) - n) _ _ _ _ _ hm hx0 hx1 (by omega) (by omega) rfl HK (hide fun W=>rounded_none W g s x _ md (by omega) (by omega)),fun W=>rround_same W g s x n md (by omega) (by omega) (by omega) hm hx0 hx1 h4 (hide H2)⟩
 ·obtain ⟨k,rfl⟩:∃ k:Nat,n = (k:Int):=⟨n.toNat,by omega⟩
  obtain ⟨c,hc⟩:∃ c,k+c = s.size:=⟨s.size - k,by omega⟩
  obtain ⟨g2,s2,x2,e2,a1,a2⟩:=both_some g s x (x+(c:Int)) c md k hm hd hc (by omega) (by omega) (by omega) hx0 hx1 rfl
  exact ⟨g2,s2,x2,false,e2,fun W=>dround_go W g s x k md (c:Int) g2 s2 x2 false e2 hm hx0 hx1 (by omega) (by omega) (by omega) HK (hide a1),fun W=>rround_cut W g s x k md g2 s2 x2 e2 _ (by omega) (by omega) (by omega) hm hx0 hx1 (by omega) (by omega) (hide H2) (hide a2)⟩
theorem places_both (g:Bool) (s:ByteArray) (x n:Int) (md:Nat):∃ (g1:Bool) (s1:ByteArray) (x1:Int) (b1:Bool) (e1:Int),
  (∀ W:World,Calls Try.prog 14 #[.agg #[.bool g,.string s,.int .i64 x],.int .i64 n,.int .u8 (md:Int)] W fun e W'=>e = .returned (.tuple #[.agg #[.bool g1,.string s1,.int .i64 x1],.bool b1,.int .i64 e1])∧Below W.heap.size W W') ∧
  ∀ W:World,Calls Try.prog 25 #[.agg #[.bool g,.string s,.int .i64 x],.int .i64 n,.int .u8 (md:Int)] W fun e W'=>e = .returned (.tuple #[.agg #[.bool g1,.string s1,.int .i64 x1],.bool b1,.int .i64 e1])∧Below W.heap.size W W':=by
 obtain ⟨e,he,H1,H2⟩:=check_both g s x
 rcases he with he|⟨rfl,hm,hd,hx0,hx1,hz0⟩
 ·exact ⟨_,_,_,_,_,fun W=>dplaces_err W g s x n md e he (hide fun W=>ask_e W g s x n 0 md e he (hide H1)),fun W=>rplaces_err W g s x n md e he (hide H2)⟩
 by_cases h1:n < 0
 ·exact ⟨_,_,_,_,_,fun W=>dplaces_err W g s x n md 101 (by decide) (hide fun W=>ask_lo W g s x n 0 md h1 (hide H1)),fun W=>rplaces_lo W g s x n md h1 (hide H2)⟩
 by_cases h2:2000 < n
 ·exact ⟨_,_,_,_,_,fun W=>dplaces_err W g s x n md 101 (by decide) (hide fun W=>ask_hi W g s x n 0 md (by omega) h2 (hide H1)),fun W=>rplaces_hi W g s x n md (by omega) h2 (hide H2)⟩
 by_cases h3:4 < md
 ·exact ⟨_,_,_,_,_,fun W=>dplaces_err W g s x n md 7 (by decide) (hide fun W=>ask_md W g s x n 0 md (by omega) (by omega) h3 (hide H1)),fun W=>rplaces_md W g s x n md (by omega) (by omega) h3 (hide H2)⟩
 have HK:=hide fun W=>ask_ok W g s x n 0 md (by omega) (by omega) (by omega) (hide H1)
 by_cases hz:s.size = 0
 ·have:=hz0 hz
  exact ⟨_,_,_,_,_,fun W=>dplaces_go W g s x n md (-x - n) _ _ _ _ _ hm hx0 hx1 (by omega) (by omega) rfl HK (hide fun W=>rounded_none W g s x _ md (by omega) (by omega)),fun W=>rplaces_zero W g s x n md (by omega) (by omega) (by omega) hm hx0 hx1 hz (hide H2)⟩
 by_cases h4:-n≤x
 ·exact ⟨_,_,_,_,_,fun W=>dplaces_go W g s x n md (-x - n) _ _ _ _ _ hm hx0 hx1 (by omega) (by omega) rfl HK (hide fun W=>rounded_none W g s x _ md (by omega) (by omega)),fun W=>rplaces_same W g s x n md (by omega) (by omega) (by omega) hm hx0 hx1 hz h4 (hide H2)⟩
 ·obtain ⟨c,hc⟩:∃ c:Nat,-x - n = (c:Int):=⟨(-x - n).toNat,by omega⟩
  have key:∃ (g2:Bool) (s2:ByteArray) (x2 e2:Int),(∀ W:World,Calls Try.prog 37 #[.agg #[.bool g,.string s,.int .i64 x],.int .i64 (c:Int),.int .u8 (md:Int)] W fun e W'=>e = .returned (.tuple #[.agg #[.bool g2,.string s2,.int .i64 x2],.bool false,.int .i64 e2])∧Below W.heap.size W W') ∧
   ∀ W:World,Calls Try.prog 61 #[.agg #[.bool g,.string s,.int .i64 x],.int .i64 (-n),.int .u8 (md:Int)] W fun e W'=>e = .returned (.tuple #[.agg #[.bool g2,.string s2,.int .i64 x2],.int .i64 e2])∧Below W.heap.size W W':=by
   rcases Nat.lt_or_ge c s.size with h|h
   ·exact both_some g s x (-n) c md (s.size - c) hm hd (by omega) (by omega) (by omega) (by omega) hx0 hx1 (by omega)
   ·exact both_none g s x (-n) c md hm (by omega) h (by omega) (by omega) hx0 hx1 (by omega)
  obtain ⟨g2,s2,x2,e2,a1,a2⟩:=key
  exact ⟨g2,s2,x2,false,e2,fun W=>dplaces_go W g s x n md (c:Int) g2 s2 x2 false e2 hm hx0 hx1 (by omega) (by omega) hc HK (hide a1),fun W=>rplaces_cut W g s x n md g2 s2 x2 e2 _ (by omega) (by omega) (by omega) hm hx0 hx1 hz (by omega) rfl (hide H2) (hide a2)⟩
theorem decRounds_any (g:Bool) (s:ByteArray) (x n:Int) (md:Nat) (w:World):Calls Try.prog 6 #[.agg #[.bool g,.string s,.int .i64 x],.int .i64 n,.int .u8 (md:Int)] w fun e w'=>e = .returned (.bool true)∧Below w.heap.size w w':=by
 obtain ⟨g1,s1,x1,b1,e1,H1,H2⟩:=round_both g s x n md
 obtain ⟨g2,s2,x2,b2,e2,H3,H4⟩:=places_both g s x n md
 exact rounds_law g s x n md g1 s1 x1 b1 e1 g2 s2 x2 b2 e2 (hide H1) (hide H2) (hide H3) (hide H4) w
end Go.Proofs.Ytmmkefdbdpfpdaa
