/- Of what DecShiftsRow stands on: DcRou DcRouB DcBoth DcRoundsLaw DcRNou. -/
import Derived.Test.YtdbmdhfjmdlihaaDoorPaf
import Derived.Test.YtdbmdhfjmdlihaaDoorPaj
import Derived.Test.YtdbmdhfjmdlihaaDoorPau
import Derived.Test.YtdbmdhfjmdlihaaDoorPab
import Derived.Test.YtdbmdhfjmdlihaaDoorPav
import Derived.Deep.QuietTactic
import Derived.BigQuiet
import Derived.Test.YtdbmdhfjmdlihaaDoorPal
namespace Go.Proofs.YtdbmdhfjmdlihaaDoor
open Go.RowKit
set_option maxHeartbeats 1000000
set_option maxRecDepth 20000
structure Rou (w W:World) (g:Bool) (s:ByteArray) (x:Int) (zs:List Nat):Prop where
 d:W.heap[w.heap.size]? = some (.cells #[.bool g,.string s,.int .i64 x] 23 (0,0))
 r:W.heap[w.heap.size+1]? = some (.cells #[.bool false,.string ⟨#[]⟩,.int .i64 0] 23 (0,0))
 k:BRow W (w.heap.size+1+1) zs
 fr:Below w.heap.size w W
theorem Rou.kept {w W W':World} {g:Bool} {s:ByteArray} {x:Int} {zs:List Nat} (h:Rou w W g s x zs) (hb:Below W.heap.size W W'):Rou w W' g s x zs:=by
 have hl:=h.k.lt
 exact ⟨(hb.block _ (by omega)).trans h.d,(hb.block _ (by omega)).trans h.r,(hb.block _ hl).trans h.k,gr_trans h.fr hb⟩
theorem Rou.only {w W W':World} {g:Bool} {s:ByteArray} {x:Int} {zs ys:List Nat} (h:Rou w W g s x zs) (ho:Only (w.heap.size+1+1) W W') (hk:BRow W' (w.heap.size+1+1) ys):Rou w W' g s x ys:=
 ⟨(ho.block _ (by omega)).trans h.d,(ho.block _ (by omega)).trans h.r,hk,Only.below h.fr ho (by omega)⟩
theorem Only.setRow {B:Nat} {a w:World} (h:Only B a w) (cs:Array Value):Only B a (w.setRow B cs):=⟨h.os,h.tape,h.output,by rw [← h.size]; simp,fun k hk=>(setRow_other _ _ _ _ hk).trans (h.block k hk)⟩
theorem size_chars (es:List Nat):(⟨(chars es).toArray⟩:ByteArray).size = es.length:=by simp [chars,ByteArray.size]
theorem MkA.parts {g:Bool} {N:Nat} {x:Int} {V:Value} (h:MkA g N x V):∃ (g2:Bool) (s2:ByteArray) (x2 e2:Int),V = .tuple #[.agg #[.bool g2,.string s2,.int .i64 x2],.int .i64 e2]:=by
 rcases h with ⟨_,rfl⟩|⟨t,n,z,_,_,_,⟨_,rfl⟩|⟨_,rfl⟩⟩ <;> exact ⟨_,_,_,_,rfl⟩
theorem ends_fix (s:ByteArray) (hm:s.size≤65536):∃ f t:Nat,Ends s f t∧(f < t∨(f = 0∧t = 0))∧∀ W:World,Calls Tryd.prog 24 #[.string s] W fun e W'=>e = .returned (.tuple #[.int .i64 (f:Int),.int .i64 (t:Int)])∧Below W.heap.size W W':=by
 by_cases hz:∀ (j:Nat) (hj:j < s.size),(s[j]'hj).toNat = 48
 ·refine ⟨0,0,⟨Nat.le_refl _,Nat.zero_le _,fun j _ h=>absurd h (Nat.not_lt_zero _),fun j h _=>hz j h,fun h=>absurd h (Nat.lt_irrefl _),fun h=>absurd h (Nat.lt_irrefl _)⟩,Or.inr ⟨rfl,rfl⟩,fun W=>(ends_any s W hm).mono fun e W' ⟨⟨f,t,h1,h2,h3⟩,hb⟩=>?_⟩
  rcases h3 with h3|⟨rfl,rfl⟩
  ·have:=h2.hi
   exact absurd (hz f (by omega)) (h2.one h3 (by omega))
  ·exact ⟨h1,hb⟩
 ·obtain ⟨f,q,hfq,he⟩:=Ends.ex hz
  refine ⟨f,q+1,he,Or.inl (by omega),fun W=>(ends_any s W hm).mono fun e W' ⟨⟨f',t',h1,h2,h3⟩,hb⟩=>?_⟩
  obtain ⟨rfl,rfl⟩:=he.uniq h2 (by omega)
  exact ⟨h1,hb⟩
theorem dig_t {s:ByteArray} (hm:s.size≤65536) (hd:AllD s s.size) (W:World):(Calls Tryd.prog 25 #[.string s] W fun e W'=>e = .returned (.bool true)∧Below W.heap.size W W')∧Calls Tryd.prog 28 #[.string s] W fun e W'=>e = .returned (.bool true)∧Below W.heap.size W W':=by
 constructor
 ·refine (allDigits_any s W hm).mono fun e W' ⟨h,hb⟩=>?_
  rcases h with ⟨h,_⟩|⟨_,h⟩
  ·exact ⟨h,hb⟩
  ·exact absurd hd h
 ·refine (rdigits_any s W hm).mono fun e W' ⟨h,hb⟩=>?_
  rcases h with ⟨h,_⟩|⟨_,h⟩
  ·exact ⟨h,hb⟩
  ·exact absurd hd h
theorem dig_f {s:ByteArray} (hm:s.size≤65536) (hd:¬ AllD s s.size) (W:World):(Calls Tryd.prog 25 #[.string s] W fun e W'=>e = .returned (.bool false)∧Below W.heap.size W W')∧Calls Tryd.prog 28 #[.string s] W fun e W'=>e = .returned (.bool false)∧Below W.heap.size W W':=by
 constructor
 ·refine (allDigits_any s W hm).mono fun e W' ⟨h,hb⟩=>?_
  rcases h with ⟨_,h⟩|⟨h,_⟩
  ·exact absurd h hd
  ·exact ⟨h,hb⟩
 ·refine (rdigits_any s W hm).mono fun e W' ⟨h,hb⟩=>?_
  rcases h with ⟨_,h⟩|⟨h,_⟩
  ·exact absurd h hd
  ·exact ⟨h,hb⟩
theorem far_t {x:Int} (h:x < -1073741824∨1073741824 < x) (W:World):(Calls Tryd.prog 26 #[.int .i64 x] W fun e W'=>e = .returned (.bool true)∧Below W.heap.size W W')∧Calls Tryd.prog 23 #[.int .i64 x] W fun e W'=>e = .returned (.bool true)∧Below W.heap.size W W':=by
 constructor
 ·by_cases h1:x < -1073741824
  ·exact bey_lo W x h1
  ·exact bey_hi W x (by omega) (by omega)
 ·refine (far_is x W).mono fun e W' ⟨h1,hb⟩=>⟨?_,hb⟩
  rw [h1,show (decide (x < -1073741824) || decide (1073741824 < x)) = true from by simpa using h]
theorem far_f {x:Int} (h:¬ (x < -1073741824∨1073741824 < x)) (W:World):(Calls Tryd.prog 26 #[.int .i64 x] W fun e W'=>e = .returned (.bool false)∧Below W.heap.size W W')∧Calls Tryd.prog 23 #[.int .i64 x] W fun e W'=>e = .returned (.bool false)∧Below W.heap.size W W':=by
 constructor
 ·exact bey_in W x (by omega) (by omega)
 ·refine (far_is x W).mono fun e W' ⟨h1,hb⟩=>⟨?_,hb⟩
  rw [h1,show (decide (x < -1073741824) || decide (1073741824 < x)) = false from by simp; omega]
theorem check_full (g:Bool) (s:ByteArray) (x:Int):∃ e:Int,(e≠0∨(e = 0∧s.size≤65536∧AllD s s.size∧-1073741824≤x∧x≤1073741824∧(s.size = 0→x = 0)∧∀ k,(h:k+1 = s.size)→(s[k]'(by omega)).toNat≠48)) ∧
  (∀ W:World,Calls Tryd.prog 11 #[.agg #[.bool g,.string s,.int .i64 x]] W fun en W'=>en = .returned (.int .i64 e)∧Below W.heap.size W W') ∧
  ∀ W:World,Calls Tryd.prog 14 #[.agg #[.bool g,.string s,.int .i64 x]] W fun en W'=>en = .returned (.int .i64 e)∧Below W.heap.size W W':=by
 by_cases hm:65536 < s.size
 ·exact ⟨4,Or.inl (by decide),fun W=>dck_many W g s x hm,fun W=>rck_many W g s x hm⟩
 have hm':s.size≤65536:=by omega
 by_cases hz:s.size = 0
 ·by_cases hx:x = 0
  ·exact ⟨0,Or.inr ⟨rfl,hm',fun j hj _=>absurd hj (by omega),by omega,by omega,fun _=>hx,fun k h=>absurd h (by omega)⟩,fun W=>dck_z0 W g s x hm' hz hx,fun W=>rck_z0 W g s x hm' hz hx⟩
  ·exact ⟨100,Or.inl (by decide),fun W=>dck_z1 W g s x hm' hz hx,fun W=>rck_z1 W g s x hm' hz hx⟩
 obtain ⟨f,t,he,hft,HE⟩:=ends_fix s hm'
 have hhi:=he.hi
 obtain ⟨k,hk⟩:∃ k,k+1 = s.size:=⟨s.size - 1,by omega⟩
 by_cases hd:AllD s s.size
 case neg=>
  refine ⟨100,Or.inl (by decide),fun W=>?_,fun W=>rck_b1 W g s x hm' hz (hide fun W=>(dig_f hm' hd W).2)⟩
  by_cases hf:0 < f
  ·exact dck_b1 W g s x f t hm' hz (hide HE) hf
  ·by_cases ht:t < s.size
   ·exact dck_b2 W g s x f t hm' hz (hide HE) (by omega) ht
   ·exact dck_b3 W g s x f t hm' hz (hide HE) (by omega) (by omega) (hide fun W=>(dig_f hm' hd W).1)
 have HD:=hide fun W=>(dig_t hm' hd W).2
 by_cases hf:0 < f
 ·exact ⟨100,Or.inl (by decide),fun W=>dck_b1 W g s x f t hm' hz (hide HE) hf,fun W=>rck_b2 W g s x 48 hm' hz HD (fun h=>he.lo 0 h hf) rfl⟩
 by_cases ht:t < s.size
 ·refine ⟨100,Or.inl (by decide),fun W=>dck_b2 W g s x f t hm' hz (hide HE) (by omega) ht,fun W=>?_⟩
  have hl:∀ h:k < s.size,(s[k]'h).toNat = 48:=fun h=>he.up k h (by omega)
  by_cases ha:(s[0]'(by omega)).toNat = 48
  ·exact rck_b2 W g s x 48 hm' hz HD (fun _=>ha) rfl
  ·exact rck_b3 W g s x _ k 48 hm' hz HD (fun _=>rfl) ha hk hl rfl
 have hlt:f < t:=by omega
 have ha:(s[0]'(by omega)).toNat≠48:=by
  have h0:f = 0:=by omega
  subst h0
  exact he.one hlt (by omega)
 have hb:(s[k]'(by omega)).toNat≠48:=by
  have h0:t = k+1:=by omega
  subst h0
  exact he.two hlt (by omega)
 have hlast:∀ k',(h:k'+1 = s.size)→(s[k']'(by omega)).toNat≠48:=by
  intro k' h'
  obtain rfl:k' = k:=by omega
  exact hb
 by_cases hx:x < -1073741824∨1073741824 < x
 ·exact ⟨100,Or.inl (by decide),fun W=>dck_b4 W g s x f t hm' hz (hide HE) (by omega) (by omega) (hide fun W=>(dig_t hm' hd W).1) (hide fun W=>(far_t hx W).1),fun W=>rck_b4 W g s x _ k _ hm' hz HD (fun _=>rfl) ha hk (fun _=>rfl) hb (hide fun W=>(far_t hx W).2)⟩
 ·exact ⟨0,Or.inr ⟨rfl,hm',hd,by omega,by omega,fun h=>absurd h hz,hlast⟩,fun W=>dck_ok W g s x f t hm' hz (hide HE) (by omega) (by omega) (hide fun W=>(dig_t hm' hd W).1) (hide fun W=>(far_f hx W).1),fun W=>rck_ok W g s x _ k _ hm' hz HD (fun _=>rfl) ha hk (fun _=>rfl) hb (hide fun W=>(far_f hx W).2)⟩
def noS (n:Nat):ByteArray:=⟨(chars (List.replicate n 0)).toArray⟩
theorem size_noS (n:Nat):(noS n).size = n:=by unfold noS; rw [size_chars,List.length_replicate]
theorem rep_set48 (n k:Nat) (h:k < n):(List.replicate k 48 ++ List.replicate (n - k) 0).set k 48 = List.replicate (k+1) 48 ++ List.replicate (n - (k+1)) 0:=by
 have e:n - k = n - (k+1)+1:=by omega
 rw [e,List.replicate_succ,List.set_append_right _ _ (by simp),List.length_replicate,Nat.sub_self,List.set_cons_zero,List.replicate_succ' (n:=k)]
 simp
theorem dig_noughts (n:Nat):Pl.Dig (List.replicate n 0):=fun d hd=>by
 rw [List.eq_of_mem_replicate hd]; decide
theorem rnoughts_any (n:Nat) (hn:n≤262144) (w:World) :
  Calls Tryd.prog 17 #[.int .i64 (n:Int)] w fun e w'=>e = .returned (.string (noS n))∧Below w.heap.size w w':=by
 have hmk:=make_bytes (n:Int) n rfl (by omega)
 go_enter Tryd.func17,Tryd.ntmps17
 go_wp2
 clear hmk
 obtain ⟨B,hB⟩:∃ B,w.heap.size = B:=⟨_,rfl⟩
 have HR0:Hid (BRow (w.alloc (.cells (bc (List.replicate n 0)) 5)) B (List.replicate 0 48 ++ List.replicate (n - 0) 0)):=hide (by rw [← hB]; simpa using BRow.made w (List.replicate n 0))
 have HB2:Hid (Below B w (w.alloc (.cells (bc (List.replicate n 0)) 5))):=hide (by rw [← hB]; exact gr_alloc w _)
 simp only [hB]
 go_loopw [4] (fun s4 wr2=>∃ k:Nat,k≤n∧s4 = .int .i64 (k:Int)∧Hid (BRow wr2 B (List.replicate k 48 ++ List.replicate (n - k) 0)∧Below B w wr2)) (fun s4 _=>n - (intOf s4).toNat)
 case atStart=>exact ⟨0,Nat.zero_le _,rfl,hide ⟨unhide HR0,unhide HB2⟩⟩
 case round=>
  clear HR0 HB2
  obtain ⟨k,hk,rfl,HK⟩:=hrel
  obtain ⟨r1,r3⟩:=unhide HK
  by_cases hkv:k < n
  ·have hcs:=r1.cell k (by simp; omega)
   have hfs:=r1.frozen k
   have hset:=r1.set k 48
   rw [rep_set48 n k hkv] at hset
   have HS:=hide (show BRow (wr.setCell ⟨B,k,none⟩ (.int .u8 48)) B _∧Below B w (wr.setCell ⟨B,k,none⟩ (.int .u8 48)) from ⟨hset,r3.setCell (Nat.le_refl _) _⟩)
   clear r1 r3 hset HK
   go_wp2
   go_roundw
   case rel=>exact ⟨k+1,by omega,by go_num,HS⟩
   case measure=>simp [intOf]; omega
  ·obtain rfl:k = n:=by omega
   have hcv:(convert 36 9 (.slice (some ⟨B,0,none⟩) k k)).run Tryd.prog wr = .ok (.string (noS k)) wr:=text_of wr B k (List.replicate k 0) (by simpa using r1) (dig_noughts k) (by simp)
   have HR3:=hide r3
   generalize hst:noS k = st at hcv ⊢
   clear r1 r3 HK
   go_wp2
   go_ret
   exact ⟨by rw [hst]; rfl,by rw [hB]; exact unhide HR3⟩
end Go.Proofs.YtdbmdhfjmdlihaaDoor
