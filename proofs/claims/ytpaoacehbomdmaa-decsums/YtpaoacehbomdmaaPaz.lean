/- Of what DecSumsRow stands on: DcRou DcRouB DcBoth DcRoundsLaw DcRNou. -/
import Derived.Test.YtpaoacehbomdmaaPaf
import Derived.Test.YtpaoacehbomdmaaPah
import Derived.Test.YtpaoacehbomdmaaPav
import Derived.Test.YtpaoacehbomdmaaPab
import Derived.Test.YtpaoacehbomdmaaPay
import Derived.Deep.QuietTactic
import Derived.BigQuiet
import Derived.Test.YtpaoacehbomdmaaPak
namespace Go.Proofs.Ytpaoacehbomdmaa
open Go.RowKit
set_option maxHeartbeats 1000000
set_option maxRecDepth 20000
structure Rou (w W:World) (g:Bool) (s:ByteArray) (x:Int) (zs:List Nat):Prop where
 d:W.heap[w.heap.size]? = some (.cells #[.bool g,.string s,.int .i64 x] 23 (0,0))
 r:W.heap[w.heap.size+1]? = some (.cells #[.bool false,.string ⟨#[]⟩,.int .i64 0] 23 (0,0))
 k:BRow W (w.heap.size+1+1) zs
 fr:Below w.heap.size w W
theorem Rou.kept {w W W':World} {g:Bool} {s:ByteArray} {x:Int} {zs:List Nat} (h:Rou w W g s x zs) (hb:Below W.heap.size W W'):Rou w W' g s x zs:=by
 have hl:=h.k.lt
 exact ⟨(hb.block _ (by omega)).trans h.d,(hb.block _ (by omega)).trans h.r,(hb.block _ hl).trans h.k,gr_trans h.fr hb⟩
theorem Rou.only {w W W':World} {g:Bool} {s:ByteArray} {x:Int} {zs ys:List Nat} (h:Rou w W g s x zs) (ho:Only (w.heap.size+1+1) W W') (hk:BRow W' (w.heap.size+1+1) ys):Rou w W' g s x ys:=
 ⟨(ho.block _ (by omega)).trans h.d,(ho.block _ (by omega)).trans h.r,hk,Only.below h.fr ho (by omega)⟩
theorem Rou.cr {w W:World} {g:Bool} {s:ByteArray} {x:Int} {zs:List Nat} (h:Rou w W g s x zs):W.cell? ⟨w.heap.size+1,0,none⟩ = some (.bool false)∧W.cell? ⟨w.heap.size+1,1,none⟩ = some (.string ⟨#[]⟩)∧W.cell? ⟨w.heap.size+1,2,none⟩ = some (.int .i64 0)∧∀ j,W.frozen? ⟨w.heap.size+1,j,none⟩ = false:=
 ⟨by rw [cell_of_row W _ 0 _ _ _ h.r]; rfl,by rw [cell_of_row W _ 1 _ _ _ h.r]; rfl,by rw [cell_of_row W _ 2 _ _ _ h.r]; rfl,fun j=>frozen_of_row W _ j _ _ h.r⟩
theorem Only.setRow {B:Nat} {a w:World} (h:Only B a w) (cs:Array Value):Only B a (w.setRow B cs):=⟨h.os,h.tape,h.output,by rw [← h.size]; simp,fun k hk=>(setRow_other _ _ _ _ hk).trans (h.block k hk)⟩
theorem digs_chars {es:List Nat} (h:Pl.Dig es):digs ⟨(chars es).toArray⟩ = es:=by
 unfold digs chars
 simp only [List.map_map]
 conv=>rhs; rw [← List.map_id es]
 apply List.map_congr_left
 intro d hd
 have:=h d hd
 simp only [Function.comp,id]
 rw [UInt8.toNat_ofNat_of_lt' (show 48+d < 256 by omega)]
 omega
theorem all_chars {es:List Nat} (h:Pl.Dig es):AllD ⟨(chars es).toArray⟩ (⟨(chars es).toArray⟩:ByteArray).size:=by
 intro j hj _
 have hj':j < es.length:=by simpa [chars,ByteArray.size] using hj
 have:=h _ (List.getElem_mem hj')
 have e:((⟨(chars es).toArray⟩:ByteArray)[j]'hj).toNat = 48+es[j]:=by
  rw [ByteArray.getElem_eq_getElem_data]
  simp only [List.getElem_toArray,chars,List.getElem_map]
  rw [UInt8.toNat_ofNat_of_lt' (show 48+es[j] < 256 by omega)]
 omega
theorem size_chars (es:List Nat):(⟨(chars es).toArray⟩:ByteArray).size = es.length:=by simp [chars,ByteArray.size]
theorem MkA.parts {g:Bool} {N:Nat} {x:Int} {V:Value} (h:MkA g N x V):∃ (g2:Bool) (s2:ByteArray) (x2 e2:Int),V = .tuple #[.agg #[.bool g2,.string s2,.int .i64 x2],.int .i64 e2]:=by
 rcases h with ⟨_,rfl⟩|⟨t,n,z,_,_,_,⟨_,rfl⟩|⟨_,rfl⟩⟩ <;> exact ⟨_,_,_,_,rfl⟩
theorem digits_ex:∀ m:Nat,∃ ds,Pl.Dig ds∧Pl.Lead ds∧Pl.dval ds 0 = m:=by
 intro m
 induction m using Nat.strongRecOn with
 | ind m ih=>
  by_cases h:m < 10
  ·exact ⟨[m],fun d hd=>by simp at hd; omega,⟨by simp,Or.inr rfl⟩,by show 0 * 10+m = m; omega⟩
  ·obtain ⟨ds,h1,h2,h3⟩:=ih (m / 10) (by omega)
   refine ⟨ds ++ [m % 10],fun d hd=>?_,⟨by simp,Or.inl ?_⟩,?_⟩
   ·rw [List.mem_append] at hd
    rcases hd with hd|hd
    ·exact h1 d hd
    ·simp at hd; omega
   ·obtain ⟨h4,h5⟩:=h2
    match ds,h4 with
    | [d],_=>
     have:0 * 10+d = m / 10:=h3
     show d≠0
     omega
    | d :: e :: r,_=>
     rcases h5 with h5|h5
     ·exact h5
     ·simp at h5
   ·rw [dval_append,h3]
    have:Pl.dval [m % 10] 0 = m % 10:=by show 0 * 10+m % 10 = _; omega
    rw [this]; simp; omega
theorem says_ex (m:Nat):∃ ds,Pl.Dig ds∧Says ⟨(chars ds).toArray⟩ m∧Pl.dval ds 0 = m∧Pl.Lead ds:=by
 obtain ⟨ds,h1,h2,h3⟩:=digits_ex m
 exact ⟨ds,h1,⟨ds,rfl,h1,h2,h3⟩,h3,h2⟩
theorem lead_len {ds:List Nat} {n:Nat} (hl:Pl.Lead ds) (hv:Pl.dval ds 0 < 10 ^ n) (hn:0 < n):ds.length≤n:=by
 obtain ⟨h1,h2⟩:=hl
 match ds,h1 with
 | d :: r,_=>
  rcases h2 with h2|h2
  ·have:=Pl.lead_low (d:=d) (ds:=r) h2
   have h3:10 ^ r.length < 10 ^ n:=Nat.lt_of_le_of_lt this hv
   have:=(Nat.pow_lt_pow_iff_right (by decide)).1 h3
   simp; omega
  ·omega
theorem eqS (u v:ByteArray):(u.toList == v.toList) = decide (u.data.toList = v.data.toList):=by
 rw [ByteArray.toList_eq,ByteArray.toList_eq,Bool.eq_iff_iff,beq_iff_eq,decide_eq_true_iff]
theorem rnumber_any (u:ByteArray) (hd:AllD u u.size) (hm:u.size≤65536) (W:World):Calls Try.prog 51 #[.string u] W fun en W'=>(∃ a n c,en = .returned (.agg #[.slice a n c])∧Mine W' W.heap.size a n c (valS u))∧Below W.heap.size W W':=by
 by_cases h0:u.size = 0
 ·have hs:u = ⟨#[]⟩:=by
   apply ByteArray.ext
   exact Array.eq_empty_of_size_eq_zero h0
  subst hs
  exact rnum_z W
 ·refine rnum_p W u (valS u) ?_ (hide fun W=>(rparse_any u W (by omega)).mono fun e W' ⟨h,hb⟩=>?_)
  ·rw [eqS,decide_eq_false_iff_not]
   intro e
   have:=congrArg List.length e
   simp at this
   exact h0 (by rw [this]; rfl)
  ·rcases h with ⟨h1,_⟩|⟨h1,_⟩|⟨i,hi,_,_,h3,_⟩|⟨a,n,c,_,_,_,h,hM⟩
   ·omega
   ·exact absurd h1 h0
   ·exact absurd (hd i hi hi) h3
   ·exact ⟨⟨a,n,c,h,hM⟩,hb⟩
theorem not_overD {v n:Nat} (h:v < 2 ^ n) (hn:n≤524288):¬ Over v:=fun o=>by
 have h1:=o.le
 have h2:4294967296 ^ Pl.top = 2 ^ (32 * Pl.top):=by rw [Nat.pow_mul]
 rw [h2] at h1
 have h3:n≤32 * Pl.top:=by have:=Pl.top_eq; omega
 have h4:=Nat.pow_le_pow_right (show 0 < 2 by decide) h3
 exact absurd (Nat.lt_of_lt_of_le h h4) (Nat.not_lt.2 h1)
theorem ten_over {N n:Nat} (h:N < 10 ^ n) (hn:n≤65537):¬ Over N:=by
 obtain ⟨K,hK⟩:∃ K,K = 4 * n:=⟨_,rfl⟩
 refine not_overD (n:=K) (Nat.lt_of_lt_of_le h ?_) (by omega)
 rw [hK,Nat.pow_mul]
 exact Nat.pow_le_pow_left (by decide) n
theorem below_of {fn:FuncId} {as9:Array Value} {W:World} {v:Value} (h:Calls Try.prog fn as9 W fun e w'=>e = .returned v∧w' = W):Calls Try.prog fn as9 W fun e w'=>e = .returned v∧Below W.heap.size W w':=h.mono fun e w' ⟨h1,h2⟩=>⟨h1,by rw [h2]; exact Below.refl _ _⟩
theorem ends_fix (s:ByteArray) (hm:s.size≤65536):∃ f t:Nat,Ends s f t∧(f < t∨(f = 0∧t = 0))∧∀ W:World,Calls Try.prog 35 #[.string s] W fun e W'=>e = .returned (.tuple #[.int .i64 (f:Int),.int .i64 (t:Int)])∧Below W.heap.size W W':=by
 by_cases hz:∀ (j:Nat) (hj:j < s.size),(s[j]'hj).toNat = 48
 ·refine ⟨0,0,⟨Nat.le_refl _,Nat.zero_le _,fun j _ h=>absurd h (Nat.not_lt_zero _),fun j h _=>hz j h,fun h=>absurd h (Nat.lt_irrefl _),fun h=>absurd h (Nat.lt_irrefl _)⟩,Or.inr ⟨rfl,rfl⟩,fun W=>(ends_any s W hm).mono fun e W' ⟨⟨f,t,h1,h2,h3⟩,hb⟩=>?_⟩
  rcases h3 with h3|⟨rfl,rfl⟩
  ·have:=h2.hi
   exact absurd (hz f (by omega)) (h2.one h3 (by omega))
  ·exact ⟨h1,hb⟩
 ·obtain ⟨f,q,hfq,he⟩:=Ends.ex hz
  refine ⟨f,q+1,he,Or.inl (by omega),fun W=>(ends_any s W hm).mono fun e W' ⟨⟨f',t',h1,h2,h3⟩,hb⟩=>?_⟩
  obtain ⟨rfl,rfl⟩:=he.uniq h2 (by omega)
  exact ⟨h1,hb⟩
theorem dig_t {s:ByteArray} (hm:s.size≤65536) (hd:AllD s s.size) (W:World):(Calls Try.prog 34 #[.string s] W fun e W'=>e = .returned (.bool true)∧Below W.heap.size W W')∧Calls Try.prog 42 #[.string s] W fun e W'=>e = .returned (.bool true)∧Below W.heap.size W W':=by
 constructor
 ·refine (allDigits_any s W hm).mono fun e W' ⟨h,hb⟩=>?_
  rcases h with ⟨h,_⟩|⟨_,h⟩
  ·exact ⟨h,hb⟩
  ·exact absurd hd h
 ·refine (rdigits_any s W hm).mono fun e W' ⟨h,hb⟩=>?_
  rcases h with ⟨h,_⟩|⟨_,h⟩
  ·exact ⟨h,hb⟩
  ·exact absurd hd h
theorem dig_f {s:ByteArray} (hm:s.size≤65536) (hd:¬ AllD s s.size) (W:World):(Calls Try.prog 34 #[.string s] W fun e W'=>e = .returned (.bool false)∧Below W.heap.size W W')∧Calls Try.prog 42 #[.string s] W fun e W'=>e = .returned (.bool false)∧Below W.heap.size W W':=by
 constructor
 ·refine (allDigits_any s W hm).mono fun e W' ⟨h,hb⟩=>?_
  rcases h with ⟨_,h⟩|⟨h,_⟩
  ·exact absurd h hd
  ·exact ⟨h,hb⟩
 ·refine (rdigits_any s W hm).mono fun e W' ⟨h,hb⟩=>?_
  rcases h with ⟨_,h⟩|⟨h,_⟩
  ·exact absurd h hd
  ·exact ⟨h,hb⟩
theorem far_t {x:Int} (h:x < -1073741824∨1073741824 < x) (W:World):(Calls Try.prog 41 #[.int .i64 x] W fun e W'=>e = .returned (.bool true)∧Below W.heap.size W W')∧Calls Try.prog 43 #[.int .i64 x] W fun e W'=>e = .returned (.bool true)∧Below W.heap.size W W':=by
 constructor
 ·by_cases h1:x < -1073741824
  ·exact bey_lo W x h1
  ·exact bey_hi W x (by omega) (by omega)
 ·refine (far_is x W).mono fun e W' ⟨h1,hb⟩=>⟨?_,hb⟩
  rw [h1,show (decide (x < -1073741824) || decide (1073741824 < x)) = true from by simpa using h]
theorem far_f {x:Int} (h:¬ (x < -1073741824∨1073741824 < x)) (W:World):(Calls Try.prog 41 #[.int .i64 x] W fun e W'=>e = .returned (.bool false)∧Below W.heap.size W W')∧Calls Try.prog 43 #[.int .i64 x] W fun e W'=>e = .returned (.bool false)∧Below W.heap.size W W':=by
 constructor
 ·exact bey_in W x (by omega) (by omega)
 ·refine (far_is x W).mono fun e W' ⟨h1,hb⟩=>⟨?_,hb⟩
  rw [h1,show (decide (x < -1073741824) || decide (1073741824 < x)) = false from by simp; omega]
theorem check_full (g:Bool) (s:ByteArray) (x:Int):∃ e:Int,(e≠0∨(e = 0∧s.size≤65536∧AllD s s.size∧-1073741824≤x∧x≤1073741824∧(s.size = 0→x = 0)∧∀ k,(h:k+1 = s.size)→(s[k]'(by omega)).toNat≠48)) ∧
  (∀ W:World,Calls Try.prog 16 #[.agg #[.bool g,.string s,.int .i64 x]] W fun en W'=>en = .returned (.int .i64 e)∧Below W.heap.size W W') ∧
  ∀ W:World,Calls Try.prog 23 #[.agg #[.bool g,.string s,.int .i64 x]] W fun en W'=>en = .returned (.int .i64 e)∧Below W.heap.size W W':=by
 by_cases hm:65536 < s.size
 ·exact ⟨4,Or.inl (by decide),fun W=>dck_many W g s x hm,fun W=>rck_many W g s x hm⟩
 have hm':s.size≤65536:=by omega
 by_cases hz:s.size = 0
 ·by_cases hx:x = 0
  ·exact ⟨0,Or.inr ⟨rfl,hm',fun j hj _=>absurd hj (by omega),by omega,by omega,fun _=>hx,fun k h=>absurd h (by omega)⟩,fun W=>dck_z0 W g s x hm' hz hx,fun W=>rck_z0 W g s x hm' hz hx⟩
  ·exact ⟨100,Or.inl (by decide),fun W=>dck_z1 W g s x hm' hz hx,fun W=>rck_z1 W g s x hm' hz hx⟩
 obtain ⟨f,t,he,hft,HE⟩:=ends_fix s hm'
 have hhi:=he.hi
 obtain ⟨k,hk⟩:∃ k,k+1 = s.size:=⟨s.size - 1,by omega⟩
 by_cases hd:AllD s s.size
 case neg=>
  refine ⟨100,Or.inl (by decide),fun W=>?_,fun W=>rck_b1 W g s x hm' hz (hide fun W=>(dig_f hm' hd W).2)⟩
  by_cases hf:0 < f
  ·exact dck_b1 W g s x f t hm' hz (hide HE) hf
  ·by_cases ht:t < s.size
   ·exact dck_b2 W g s x f t hm' hz (hide HE) (by omega) ht
   ·exact dck_b3 W g s x f t hm' hz (hide HE) (by omega) (by omega) (hide fun W=>(dig_f hm' hd W).1)
 have HD:=hide fun W=>(dig_t hm' hd W).2
 by_cases hf:0 < f
 ·exact ⟨100,Or.inl (by decide),fun W=>dck_b1 W g s x f t hm' hz (hide HE) hf,fun W=>rck_b2 W g s x 48 hm' hz HD (fun h=>he.lo 0 h hf) rfl⟩
 by_cases ht:t < s.size
 ·refine ⟨100,Or.inl (by decide),fun W=>dck_b2 W g s x f t hm' hz (hide HE) (by omega) ht,fun W=>?_⟩
  have hl:∀ h:k < s.size,(s[k]'h).toNat = 48:=fun h=>he.up k h (by omega)
  by_cases ha:(s[0]'(by omega)).toNat = 48
  ·exact rck_b2 W g s x 48 hm' hz HD (fun _=>ha) rfl
  ·exact rck_b3 W g s x _ k 48 hm' hz HD (fun _=>rfl) ha hk hl rfl
 have hlt:f < t:=by omega
 have ha:(s[0]'(by omega)).toNat≠48:=by
  have h0:f = 0:=by omega
  subst h0
  exact he.one hlt (by omega)
 have hb:(s[k]'(by omega)).toNat≠48:=by
  have h0:t = k+1:=by omega
  subst h0
  exact he.two hlt (by omega)
 have hlast:∀ k',(h:k'+1 = s.size)→(s[k']'(by omega)).toNat≠48:=by
  intro k' h'
  obtain rfl:k' = k:=by omega
  exact hb
 by_cases hx:x < -1073741824∨1073741824 < x
 ·exact ⟨100,Or.inl (by decide),fun W=>dck_b4 W g s x f t hm' hz (hide HE) (by omega) (by omega) (hide fun W=>(dig_t hm' hd W).1) (hide fun W=>(far_t hx W).1),fun W=>rck_b4 W g s x _ k _ hm' hz HD (fun _=>rfl) ha hk (fun _=>rfl) hb (hide fun W=>(far_t hx W).2)⟩
 ·exact ⟨0,Or.inr ⟨rfl,hm',hd,by omega,by omega,fun h=>absurd h hz,hlast⟩,fun W=>dck_ok W g s x f t hm' hz (hide HE) (by omega) (by omega) (hide fun W=>(dig_t hm' hd W).1) (hide fun W=>(far_f hx W).1),fun W=>rck_ok W g s x _ k _ hm' hz HD (fun _=>rfl) ha hk (fun _=>rfl) hb (hide fun W=>(far_f hx W).2)⟩
def noS (n:Nat):ByteArray:=⟨(chars (List.replicate n 0)).toArray⟩
theorem size_noS (n:Nat):(noS n).size = n:=by unfold noS; rw [size_chars,List.length_replicate]
theorem rep_set48 (n k:Nat) (h:k < n):(List.replicate k 48 ++ List.replicate (n - k) 0).set k 48 = List.replicate (k+1) 48 ++ List.replicate (n - (k+1)) 0:=by
 have e:n - k = n - (k+1)+1:=by omega
 rw [e,List.replicate_succ,List.set_append_right _ _ (by simp),List.length_replicate,Nat.sub_self,List.set_cons_zero,List.replicate_succ' (n:=k)]
 simp
theorem dig_noughts (n:Nat):Pl.Dig (List.replicate n 0):=fun d hd=>by
 rw [List.eq_of_mem_replicate hd]; decide
theorem rnoughts_any (n:Nat) (hn:n≤262144) (w:World) :
  Calls Try.prog 52 #[.int .i64 (n:Int)] w fun e w'=>e = .returned (.string (noS n))∧Below w.heap.size w w':=by
 have hmk:=make_bytes (n:Int) n rfl (by omega)
 go_enter Try.func52,Try.ntmps52
 go_wp2
 clear hmk
 obtain ⟨B,hB⟩:∃ B,w.heap.size = B:=⟨_,rfl⟩
 have HR0:Hid (BRow (w.alloc (.cells (bc (List.replicate n 0)) 5)) B (List.replicate 0 48 ++ List.replicate (n - 0) 0)):=hide (by rw [← hB]; simpa using BRow.made w (List.replicate n 0))
 have HB2:Hid (Below B w (w.alloc (.cells (bc (List.replicate n 0)) 5))):=hide (by rw [← hB]; exact gr_alloc w _)
 simp only [hB]
 go_loopw [4] (fun s4 wr2=>∃ k:Nat,k≤n∧s4 = .int .i64 (k:Int)∧Hid (BRow wr2 B (List.replicate k 48 ++ List.replicate (n - k) 0)∧Below B w wr2)) (fun s4 _=>n - (intOf s4).toNat)
 case atStart=>exact ⟨0,Nat.zero_le _,rfl,hide ⟨unhide HR0,unhide HB2⟩⟩
 case round=>
  clear HR0 HB2
  obtain ⟨k,hk,rfl,HK⟩:=hrel
  obtain ⟨r1,r3⟩:=unhide HK
  by_cases hkv:k < n
  ·have hcs:=r1.cell k (by simp; omega)
   have hfs:=r1.frozen k
   have hset:=r1.set k 48
   rw [rep_set48 n k hkv] at hset
   have HS:=hide (show BRow (wr.setCell ⟨B,k,none⟩ (.int .u8 48)) B _∧Below B w (wr.setCell ⟨B,k,none⟩ (.int .u8 48)) from ⟨hset,r3.setCell (Nat.le_refl _) _⟩)
   clear r1 r3 hset HK
   go_wp2
   go_roundw
   case rel=>exact ⟨k+1,by omega,by go_num,HS⟩
   case measure=>simp [intOf]; omega
  ·obtain rfl:k = n:=by omega
   have hcv:(convert 47 9 (.slice (some ⟨B,0,none⟩) k k)).run Try.prog wr = .ok (.string (noS k)) wr:=text_of wr B k (List.replicate k 0) (by simpa using r1) (dig_noughts k) (by simp)
   have HR3:=hide r3
   generalize hst:noS k = st at hcv ⊢
   clear r1 r3 HK
   go_wp2
   go_ret
   exact ⟨by rw [hst]; rfl,by rw [hB]; exact unhide HR3⟩
end Go.Proofs.Ytpaoacehbomdmaa
