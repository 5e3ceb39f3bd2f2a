/- Of what DecNearRow stands on: DcNeaN DcNeaC DcNeaS DcNeaL DcNeaP. -/
import Derived.Test.YtbblodioaedckaaGreatPbh
import Derived.Test.YtbblodioaedckaaGreatPbj
namespace Go.Proofs.YtbblodioaedckaaGreat
open Go.RowKit
set_option maxHeartbeats 2000000
set_option maxRecDepth 20000
theorem Lit.dc {s:ByteArray} {n v:Nat} (h:Lit s n v) (hn:0 < n) (hm:n≤65536) {y:Int} (h0:-1073741824≤y) (h1:y≤1073741824):DcOk s y:=
 ⟨by rw [h.sz]; exact hm,h.ok,h0,h1,fun e=>by rw [h.sz] at e; omega,h.fst,cd_of h.ok h.lst⟩
theorem empty_val {s:ByteArray} (h:s.size = 0):valS s = 0:=by
 have:digs s = []:=by
  have hl:(digs s).length = s.size:=by simp [digs]
  exact List.eq_nil_of_length_eq_zero (by omega)
 unfold valS
 rw [this]
 rfl
theorem Rnd.apart {s:ByteArray} {g:Bool} {md c Q R:Nat} {up:Bool} (h:Rnd s g md c Q R up) (hc:0 < c) (hmd:md≤4):apart (valS s) ((Q+(if up then 1 else 0)) * 10 ^ c) = rdist c R up∧valS s≠(Q+(if up then 1 else 0)) * 10 ^ c:=by
 obtain ⟨h1,_,h3,h4,_⟩:=h.dist hc hmd
 generalize rdist c R up = D at *
 unfold Go.Proofs.YtbblodioaedckaaGreat.apart
 cases up
 ·have h5:=h4 rfl
  generalize (Q+(if false = true then 1 else 0)) * 10 ^ c = Y at *
  rw [if_pos (by omega)]
  omega
 ·have h5:=h3 rfl
  generalize (Q+(if true = true then 1 else 0)) * 10 ^ c = Y at *
  rw [if_neg (by omega)]
  omega
theorem dvl_false (A:Nat):dvl false A = (A:Int):=rfl
theorem scaled_num (g:Bool) (s:ByteArray) (x:Int) (s2:ByteArray) (x2:Int) (o k v D:Nat) (m:ByteArray) (n:Int) (h:DcOk s x) (h2:DcOk s2 x2) (hs:s.size≠0) (he:s2.size≠0→x2 = x+(o:Int)) (ho:s2.size+o≤65536) (hx1:x≤1000000000) (hne:valS s≠valS s2 * 10 ^ o) (hD:apart (valS s) (valS s2 * 10 ^ o) = D) (hm:DcOk m n) (hv:valS m = v) (hn:n = x+(k:Int)) (W:World) :
  Calls Tryz.prog 57 #[.agg #[.bool g,.string s,.int .i64 x],.agg #[.bool g,.string s2,.int .i64 x2],.string m,.int .i64 n] W fun e W'=>e = .returned (.tuple #[.int .i64 (cmpZ (D:Int) ((v * 10 ^ k:Nat):Int)),.bool true])∧Below W.heap.size W W':=by
 obtain ⟨g3,s3,z,hok,hval,HA⟩:=dif_num g s x s2 x2 o h h2 hs he ho hx1 hne empty_val
 have HM:=fun W=>cmp_val false s3 (x+(z:Int)) false m n x z k hok hm rfl hn (hide fun W=>hok.two hm false false W) W
 rw [hval,hD,hv,dvl_false,dvl_false] at HM
 exact scaled_go W g s x g s2 x2 g3 s3 (x+(z:Int)) m n _ (hide HA) (hide HM)
theorem neq_z {s:ByteArray} (h:s.size = 0):(s.toList != (⟨#[]⟩:ByteArray).toList) = false:=by
 have:s = ⟨#[]⟩:=ByteArray.ext (Array.eq_empty_of_size_eq_zero h)
 subst this
 simp
theorem neq_n {s:ByteArray} (h:s.size≠0):(s.toList != (⟨#[]⟩:ByteArray).toList) = true:=by
 rw [bne,eqS,Bool.not_eq_true',decide_eq_false_iff_not]
 intro e
 have:=congrArg List.length e
 simp at this
 exact h (by rw [this]; rfl)
def Came (s2:ByteArray) (x2 x:Int) (c z N:Nat):Prop:=(s2.size = 0∧N = 0∧z = 0)∨(s2.size≠0∧x2 = x+(c:Int)+(z:Int)∧N = valS s2 * 10 ^ z)
theorem Came.num {s2:ByteArray} {x2 x:Int} {c z N:Nat} (h:Came s2 x2 x c z N):valS s2 * 10 ^ (c+z) = N * 10 ^ c:=by
 rcases h with ⟨h1,h2,_⟩|⟨_,_,h3⟩
 ·rw [empty_val h1,h2,Nat.zero_mul,Nat.zero_mul]
 ·rw [h3,Nat.pow_add,Nat.mul_assoc,Nat.mul_comm (10 ^ z)]
theorem side_cmp (g:Bool) (s:ByteArray) (x:Int) (md c Q R:Nat) (up:Bool) (s2:ByteArray) (x2:Int) (z:Nat) (h:DcOk s x) (hs:s.size≠0) (h2:DcOk s2 x2) (hR:Rnd s g md c Q R up) (hc:0 < c) (hmd:md≤4) (hy:Came s2 x2 x c z (Q+(if up then 1 else 0))) (W:World) :
  Calls Tryz.prog 11 #[.agg #[.bool g,.string s2,.int .i64 x2],.agg #[.bool g,.string s,.int .i64 x]] W fun en W'=>en = .returned (.tuple #[.int .i64 (if up = g then -1 else 1),.int .i64 0])∧Below W.heap.size W W':=by
 have HC:=hide fun W=>h2.two h g g W
 have hsd:=hR.side hc hmd
 have hnum:=hy.num
 rcases hy with ⟨k1,k2,_⟩|⟨k1,k2,_⟩
 ·have hx2:=h2.zero k1
  have hup:up = false:=by
   cases up
   ·rfl
   ·simp at k2
  obtain ⟨e,o1,o2,e1,e2⟩:∃ (e:Int) (o1 o2:Nat),x2 = e+(o1:Int)∧x = e+(o2:Int):=⟨min x 0,(0 - min x 0).toNat,(x - min x 0).toNat,by omega,by omega⟩
  have H:=cmp_val g s2 x2 g s x e o1 o2 h2 h e1 e2 HC W
  have hp:0 < valS s * 10 ^ o2:=Nat.mul_pos (val_pos h.ok hs h.cd) (Nat.pow_pos (by omega))
  rw [empty_val k1,Nat.zero_mul] at H
  generalize valS s * 10 ^ o2 = P at *
  have hv:cmpZ (dvl g 0) (dvl g P) = if up = g then -1 else 1:=by
   subst hup
   unfold cmpZ dvl
   cases g
   ·simp; omega
   ·simp; omega
  rw [hv] at H
  exact H
 ·have H:=cmp_val g s2 x2 g s x x (c+z) 0 h2 h (by omega) (by omega) HC W
  rw [hnum,Nat.pow_zero,Nat.mul_one,hsd] at H
  exact H
theorem near_cut (g:Bool) (s:ByteArray) (x:Int) (md c Q R:Nat) (up:Bool) (s2:ByteArray) (x2:Int) (z:Nat) (n:Int) (h:DcOk s x) (hs:s.size≠0) (h2:DcOk s2 x2) (hR:Rnd s g md c Q R up) (hc:0 < c) (hmd:md≤4) (hy:Came s2 x2 x c z (Q+(if up then 1 else 0))) (hn:x+(c:Int) = n) (hx0:-100000≤x) (hx1:x≤100000) (hc1:c≤100000) (ho:s2.size+(c+z)≤65536) (W:World) :
  Calls Tryz.prog 19 #[.agg #[.bool g,.string s,.int .i64 x],.agg #[.bool g,.string s2,.int .i64 x2],.bool false,.int .i64 n,.int .u8 (md:Int)] W fun e W'=>e = .returned (.bool true)∧Below W.heap.size W W':=by
 have HK:=hide fun W=>h2.chk g W
 have HM:=hide fun W=>side_cmp g s x md c Q R up s2 x2 z h hs h2 hR hc hmd hy W
 obtain ⟨d1,d2,_,_,d3,d4,d5,d6⟩:=hR.dist hc hmd
 obtain ⟨a1,a2⟩:=hR.apart hc hmd
 have hnum:=hy.num
 rw [← hnum] at a1 a2
 have he:s2.size≠0→x2 = x+((c+z:Nat):Int):=fun e=>by
  rcases hy with ⟨k1,_,_⟩|⟨_,k2,_⟩
  ·exact absurd k1 e
  ·omega
 have hxn:s2.size≠0→n≤x2:=fun e=>by have:=he e; omega
 obtain ⟨D,hD⟩:∃ D,rdist c R up = D:=⟨_,rfl⟩
 rw [hD] at a1 d1 d2 d6
 obtain ⟨k,hk⟩:∃ k,n - 1 = k:=⟨_,rfl⟩
 have HU:Hid (∀ W:World,Calls Tryz.prog 57 #[.agg #[.bool g,.string s,.int .i64 x],.agg #[.bool g,.string s2,.int .i64 x2],.string ⟨#[49]⟩,.int .i64 n] W fun e W'=>e = .returned (.tuple #[.int .i64 (-1),.bool true])∧Below W.heap.size W W'):=hide fun W=>by
  have H:=scaled_num g s x s2 x2 (c+z) c 1 D ⟨#[49]⟩ n h h2 hs he ho (by omega) a2 a1 (lit_1.dc (by decide) (by decide) (by omega) (by omega)) lit_1.val hn.symm W
  rw [Nat.one_mul] at H
  have hv:cmpZ (D:Int) ((10 ^ c:Nat):Int) = -1:=by unfold cmpZ; rw [if_pos (by exact_mod_cast d2)]
  rw [hv] at H
  exact H
 obtain ⟨hf,hhf⟩:∃ hf,cmpZ (D:Int) ((5 * 10 ^ (c - 1):Nat):Int) = hf:=⟨_,rfl⟩
 have HV:Hid (∀ W:World,Calls Tryz.prog 57 #[.agg #[.bool g,.string s,.int .i64 x],.agg #[.bool g,.string s2,.int .i64 x2],.string ⟨#[53]⟩,.int .i64 k] W fun e W'=>e = .returned (.tuple #[.int .i64 hf,.bool true])∧Below W.heap.size W W'):=hide fun W=>by
  have H:=scaled_num g s x s2 x2 (c+z) (c - 1) 5 D ⟨#[53]⟩ k h h2 hs he ho (by omega) a2 a1 (lit_5.dc (by decide) (by decide) (by omega) (by omega)) lit_5.val (by omega) W
  rw [hhf] at H
  exact H
 have hh:md≤1→hf≤0:=fun e=>by
  have:=d6 e
  rw [← hhf]
  generalize 5 * 10 ^ (c - 1) = H at *
  unfold cmpZ
  split
  ·omega
  ·rw [if_neg (by omega)]; omega
 have hc9:(if up = g then (-1:Int) else 1)≠0:=by split <;> decide
 have n0:-1000000≤n:=by omega
 have n1:n≤1000000:=by omega
 clear hR a1 a2 hnum hy he d1 d2 hhf d6
 have h5:md < 2∨md = 2∨md = 3∨md = 4:=by omega
 by_cases hz:s2.size = 0
 ·have hq:=neq_z hz
  rcases h5 with hlt|rfl|rfl|rfl
  ·exact near_mz W g s x s2 x2 n k hf _ md hk n0 n1 hq hlt hc9 (hh (by omega)) HK HM HU HV
  ·obtain rfl:=d5 rfl
   cases g
   ·exact near_2fz W s x s2 x2 n k hf hk n0 n1 hq HK HM HU HV
   ·exact near_2tz W s x s2 x2 n k hf hk n0 n1 hq HK HM HU HV
  ·obtain rfl:=d3 rfl
   cases g
   ·exact near_3z W false s x s2 x2 n k hf hk n0 n1 hq HK HM HU HV
   ·exact near_3z W true s x s2 x2 n k hf hk n0 n1 hq HK HM HU HV
  ·obtain rfl:=d4 rfl
   cases up
   ·exact near_4z W false s x s2 x2 n k hf hk n0 n1 hq HK HM HU HV
   ·exact near_4z W true s x s2 x2 n k hf hk n0 n1 hq HK HM HU HV
 ·have hq:=neq_n hz
  have hx:=hxn hz
  rcases h5 with hlt|rfl|rfl|rfl
  ·exact near_mn W g s x s2 x2 n k hf _ md hk n0 n1 hq hx hlt hc9 (hh (by omega)) HK HM HU HV
  ·obtain rfl:=d5 rfl
   cases g
   ·exact near_2fn W s x s2 x2 n k hf hk n0 n1 hq hx HK HM HU HV
   ·exact near_2tn W s x s2 x2 n k hf hk n0 n1 hq hx HK HM HU HV
  ·obtain rfl:=d3 rfl
   cases g
   ·exact near_3n W false s x s2 x2 n k hf hk n0 n1 hq hx HK HM HU HV
   ·exact near_3n W true s x s2 x2 n k hf hk n0 n1 hq hx HK HM HU HV
  ·obtain rfl:=d4 rfl
   cases up
   ·exact near_4n W false s x s2 x2 n k hf hk n0 n1 hq hx HK HM HU HV
   ·exact near_4n W true s x s2 x2 n k hf hk n0 n1 hq hx HK HM HU HV
theorem near_same (g:Bool) (s:ByteArray) (x n:Int) (md:Nat) (hq:s.size = 0∨n≤x) (w:World)
  (HK:Hid (∀ W:World,Calls Tryz.prog 25 #[.agg #[.bool g,.string s,.int .i64 x]] W fun e W'=>e = .returned (.int .i64 0)∧Below W.heap.size W W')) :
  Calls Tryz.prog 19 #[.agg #[.bool g,.string s,.int .i64 x],.agg #[.bool g,.string s,.int .i64 x],.bool true,.int .i64 n,.int .u8 (md:Int)] w fun e w'=>e = .returned (.bool true)∧Below w.heap.size w w':=by
 have hS:=(Fs.one w #[.bool g,.string s,.int .i64 x] 23).alloc #[.bool g,.string s,.int .i64 x] 23
 obtain ⟨W1,hW1⟩:∃ W1,(w.alloc (.cells #[.bool g,.string s,.int .i64 x] 23)).alloc (.cells #[.bool g,.string s,.int .i64 x] 23) = W1:=⟨_,rfl⟩
 have hz:(w.alloc (.cells #[.bool g,.string s,.int .i64 x] 23)).heap.size = w.heap.size+1:=by simp
 rw [hW1,hz] at hS
 clear hz
 obtain ⟨⟨y1,y2,y3,-⟩,⟨z1,z2,z3,-⟩,-⟩:=hS.cells
 go_enter Tryz.func19,Tryz.ntmps19
 go_wp2_with fail
 refine (unhide HK _).mono ?_
 rintro e w1 ⟨rfl,hb1⟩
 replace hS:=hS.kept hb1
 clear hb1 y1 y2 y3 z1 z2 z3
 have hE:=eq_dec g s x w1
 have HF:=hide hS.fr
 obtain ⟨⟨y1,y2,y3,-⟩,⟨z1,z2,z3,-⟩,-⟩:=hS.cells
 clear hS
 have hq2:(s.toList == []) = true∨((s.toList == []) = false∧decide (x < n) = false):=by
  rcases hq with h|h
  ·have:s = ⟨#[]⟩:=ByteArray.ext (Array.eq_empty_of_size_eq_zero h)
   subst this
   exact Or.inl (by simp)
  ·by_cases h0:(s.toList == []) = true
   ·exact Or.inl h0
   ·exact Or.inr ⟨by simpa using h0,decide_eq_false (by omega)⟩
 clear hq
 rcases hq2 with hq2|⟨hq2,hq3⟩
 ·go_wp2
  go_ret
  exact ⟨rfl,unhide HF⟩
 ·go_wp2
  go_ret
  exact ⟨rfl,unhide HF⟩
theorem mkA_came {g:Bool} {N c:Nat} {x:Int} {V:Value} (h:MkA g N (x+(c:Int)) V) (hN:N < tenTop 65536) (h0:-1073741824≤x+(c:Int)) (h1:x+(c:Int)≤1000000000):∃ (s2:ByteArray) (x2:Int) (z:Nat),V = .tuple #[.agg #[.bool g,.string s2,.int .i64 x2],.int .i64 0]∧DcOk s2 x2∧Came s2 x2 x c z N:=by
 by_cases hz:N = 0
 ·have hE:MkA g N (x+(c:Int)) (.tuple #[.agg #[.bool g,.string ⟨#[]⟩,.int .i64 0],.int .i64 0]):=Or.inl ⟨hz,rfl⟩
  exact ⟨⟨#[]⟩,0,0,h.uniq hE,(mkA_num hE hN).2.1,Or.inl ⟨rfl,hz,rfl⟩⟩
 ·obtain ⟨s3,z,hV,hok,hval⟩:=mkA_near h hz hN h0 h1
  refine ⟨s3,_,z,hV,hok,Or.inr ⟨fun e=>hz ?_,rfl,hval.symm⟩⟩
  rw [← hval,empty_val e,Nat.zero_mul]
theorem Came.bound {s2:ByteArray} {x2 x:Int} {c z N n:Nat} (h:Came s2 x2 x c z N) (hok:DcOk s2 x2) (hl:N≤10 ^ n):s2.size+z≤n+1:=by
 rcases h with ⟨h1,_,h3⟩|⟨h1,_,h3⟩
 ·omega
 ·obtain ⟨a,_⟩:=hok.low h1
  have b:10 ^ (s2.size - 1) * 10 ^ z≤N:=by rw [h3]; exact Nat.mul_le_mul_right _ a
  rw [← Nat.pow_add] at b
  have:=(Nat.pow_le_pow_iff_right (by decide)).1 (Nat.le_trans b hl)
  omega
theorem Came.few {s2:ByteArray} {x2 x:Int} {c z N n:Nat} (h:Came s2 x2 x c z N) (hok:DcOk s2 x2) (hn:1≤n) (hl:N≤10 ^ n):s2.size≤n:=by
 rcases h with ⟨h1,_,_⟩|⟨_,_,h3⟩
 ·omega
 ·exact hok.few hn h3 hl
theorem round_leaf (g:Bool) (s:ByteArray) (x:Int) (n md:Nat) (h:DcOk s x) (hsz:s.size≤3000) (hx0:-3000≤x) (hx1:x≤3000) (hn1:1≤n) (hn2:n≤2000) (hmd:md≤4) :
  ∃ (s1:ByteArray) (x1:Int) (b1 b2:Bool),s1.size≤n∧DcOk s1 x1 ∧
   (∀ W:World,Calls Tryz.prog 17 #[.agg #[.bool g,.string s,.int .i64 x],.int .i64 (n:Int),.int .u8 (md:Int)] W fun e W'=>e = .returned (.tuple #[.agg #[.bool g,.string s1,.int .i64 x1],.bool b1,.int .i64 0])∧Below W.heap.size W W') ∧
   (∀ W:World,Calls Tryz.prog 19 #[.agg #[.bool g,.string s,.int .i64 x],.agg #[.bool g,.string s1,.int .i64 x1],.bool b1,.int .i64 (x+(s.size:Int) - min (n:Int) (s.size:Int)),.int .u8 (md:Int)] W fun e W'=>e = .returned (.bool true)∧Below W.heap.size W W') ∧
   (∀ W:World,Calls Tryz.prog 17 #[.agg #[.bool (!g),.string s,.int .i64 x],.int .i64 (n:Int),.int .u8 ((mirM md:Nat):Int)] W fun e W'=>e = .returned (.tuple #[.agg #[.bool (!g),.string s1,.int .i64 x1],.bool b2,.int .i64 0])∧Below W.heap.size W W') ∧
   ∀ W:World,Calls Tryz.prog 17 #[.agg #[.bool g,.string s1,.int .i64 x1],.int .i64 (n:Int),.int .u8 (md:Int)] W fun e W'=>e = .returned (.tuple #[.agg #[.bool g,.string s1,.int .i64 x1],.bool true,.int .i64 0])∧Below W.heap.size W W':=by
 have again:∀ (s1:ByteArray) (x1:Int),DcOk s1 x1→s1.size≤n→∀ W:World,Calls Tryz.prog 17 #[.agg #[.bool g,.string s1,.int .i64 x1],.int .i64 (n:Int),.int .u8 (md:Int)] W fun e W'=>e = .returned (.tuple #[.agg #[.bool g,.string s1,.int .i64 x1],.bool true,.int .i64 0])∧Below W.heap.size W W':=fun s1 x1 k1 k2=>by
  rcases round_num g s1 x1 n md k1 hn1 hn2 hmd (fun W=>k1.chk g W) with ⟨_,H⟩|⟨c,_,_,_,_,_,_,_,k3,k4,_⟩
  ·exact H
  ·omega
 rcases round_num g s x n md h hn1 hn2 hmd (fun W=>h.chk g W) with ⟨q,H⟩|⟨c,Q,R,up,g2,s2,x2,e2,hc,hc0,hR,hQ,hA,H⟩
 ·rcases round_num (!g) s x n (mirM md) h hn1 hn2 (mir_le hmd) (fun W=>h.chk (!g) W) with ⟨_,H2⟩|⟨c,_,_,_,_,_,_,_,k3,k4,_⟩
  ·refine ⟨s,x,true,true,q,h,H,fun W=>?_,H2,again s x h q⟩
   exact near_same g s x _ md (Or.inr (by omega)) W (hide fun W=>h.chk g W)
  ·omega
 ·have hN:Q+(if up then 1 else 0)≤10 ^ n:=by split <;> omega
  have hT:Q+(if up then 1 else 0) < tenTop 65536:=by
   have a:10 ^ n < 10 ^ (n+1):=Nat.pow_lt_pow_right (by decide) (by omega)
   exact Nat.lt_of_le_of_lt hN (Nat.lt_of_lt_of_le a (le_top (by omega)))
  obtain ⟨s1,x1,z,hV,hok,hcm⟩:=mkA_came hA hT (by omega) (by omega)
  have hb:=hcm.bound hok hN
  have hf:=hcm.few hok hn1 hN
  rw [hV] at hA
  simp only [Value.tuple.injEq,Array.mk.injEq,List.cons.injEq,Value.agg.injEq,Value.bool.injEq,Value.string.injEq,Value.int.injEq,and_true,true_and] at hV
  obtain ⟨⟨rfl,rfl,rfl⟩,rfl⟩:=hV
  rcases round_num (!g2) s x n (mirM md) h hn1 hn2 (mir_le hmd) (fun W=>h.chk (!g2) W) with ⟨q,_⟩|⟨c',Q',R',up',g',s',x',e',hc',_,hR',_,hA',H2⟩
  ·omega
  ·obtain rfl:c' = c:=by omega
   obtain ⟨rfl,rfl,rfl⟩:=hR.mir hR' hmd
   have hu:=hA'.uniq (mkA_turn hA).2
   simp only [Value.tuple.injEq,Array.mk.injEq,List.cons.injEq,Value.agg.injEq,Value.bool.injEq,Value.string.injEq,Value.int.injEq,and_true,true_and] at hu
   obtain ⟨⟨rfl,rfl,rfl⟩,rfl⟩:=hu
   refine ⟨_,_,false,false,hf,hok,H,fun W=>?_,H2,again _ _ hok hf⟩
   exact near_cut g2 s x md _ _ _ _ _ _ z _ h (by omega) hok hR hc0 hmd hcm (by omega) (by omega) (by omega) (by omega) (by omega) W
theorem places_leaf (g:Bool) (s:ByteArray) (x:Int) (n md:Nat) (h:DcOk s x) (hsz:s.size≤3000) (hx0:-3000≤x) (hx1:x≤3000) (hn2:n≤2000) (hmd:md≤4) :
  ∃ (s1:ByteArray) (x1:Int) (b1 b2:Bool),DcOk s1 x1 ∧
   (∀ W:World,Calls Tryz.prog 18 #[.agg #[.bool g,.string s,.int .i64 x],.int .i64 (n:Int),.int .u8 (md:Int)] W fun e W'=>e = .returned (.tuple #[.agg #[.bool g,.string s1,.int .i64 x1],.bool b1,.int .i64 0])∧Below W.heap.size W W') ∧
   (∀ W:World,Calls Tryz.prog 19 #[.agg #[.bool g,.string s,.int .i64 x],.agg #[.bool g,.string s1,.int .i64 x1],.bool b1,.int .i64 (-(n:Int)),.int .u8 (md:Int)] W fun e W'=>e = .returned (.bool true)∧Below W.heap.size W W') ∧
   (∀ W:World,Calls Tryz.prog 18 #[.agg #[.bool (!g),.string s,.int .i64 x],.int .i64 (n:Int),.int .u8 ((mirM md:Nat):Int)] W fun e W'=>e = .returned (.tuple #[.agg #[.bool (!g),.string s1,.int .i64 x1],.bool b2,.int .i64 0])∧Below W.heap.size W W') ∧
   ∀ W:World,Calls Tryz.prog 18 #[.agg #[.bool g,.string s1,.int .i64 x1],.int .i64 (n:Int),.int .u8 (md:Int)] W fun e W'=>e = .returned (.tuple #[.agg #[.bool g,.string s1,.int .i64 x1],.bool true,.int .i64 0])∧Below W.heap.size W W':=by
 have again:∀ (s1:ByteArray) (x1:Int),DcOk s1 x1→-(n:Int)≤x1→∀ W:World,Calls Tryz.prog 18 #[.agg #[.bool g,.string s1,.int .i64 x1],.int .i64 (n:Int),.int .u8 (md:Int)] W fun e W'=>e = .returned (.tuple #[.agg #[.bool g,.string s1,.int .i64 x1],.bool true,.int .i64 0])∧Below W.heap.size W W':=fun s1 x1 k1 k2=>by
  rcases places_num g s1 x1 n md k1 hn2 hmd (fun W=>k1.chk g W) with ⟨_,H⟩|⟨c,_,_,_,_,_,_,_,k3,k4,_⟩
  ·exact H
  ·omega
 rcases places_num g s x n md h hn2 hmd (fun W=>h.chk g W) with ⟨q,H⟩|⟨c,Q,R,up,g2,s2,x2,e2,hc,hc0,hR,hQ,hA,H⟩
 ·rcases places_num (!g) s x n (mirM md) h hn2 (mir_le hmd) (fun W=>h.chk (!g) W) with ⟨_,H2⟩|⟨c,_,_,_,_,_,_,_,k3,k4,_⟩
  ·exact ⟨s,x,true,true,h,H,fun W=>near_same g s x _ md (Or.inr q) W (hide fun W=>h.chk g W),H2,again s x h q⟩
  ·omega
 ·have hz:s.size≠0:=fun e=>by have:=h.zero e; omega
  have hN:Q+(if up then 1 else 0)≤10 ^ (s.size - c):=by split <;> omega
  have hT:Q+(if up then 1 else 0) < tenTop 65536:=by
   have a:10 ^ (s.size - c) < 10 ^ (s.size - c+1):=Nat.pow_lt_pow_right (by decide) (by omega)
   exact Nat.lt_of_le_of_lt hN (Nat.lt_of_lt_of_le a (le_top (by omega)))
  obtain ⟨s1,x1,z,hV,hok,hcm⟩:=mkA_came hA hT (by omega) (by omega)
  have hb:=hcm.bound hok hN
  have hf:-(n:Int)≤x1:=by
   rcases hcm with ⟨k1,_,_⟩|⟨_,k2,_⟩
   ·have:=hok.zero k1; omega
   ·omega
  rw [hV] at hA
  simp only [Value.tuple.injEq,Array.mk.injEq,List.cons.injEq,Value.agg.injEq,Value.bool.injEq,Value.string.injEq,Value.int.injEq,and_true,true_and] at hV
  obtain ⟨⟨rfl,rfl,rfl⟩,rfl⟩:=hV
  rcases places_num (!g2) s x n (mirM md) h hn2 (mir_le hmd) (fun W=>h.chk (!g2) W) with ⟨q,_⟩|⟨c',Q',R',up',g',s',x',e',hc',_,hR',_,hA',H2⟩
  ·omega
  ·obtain rfl:c' = c:=by omega
   obtain ⟨rfl,rfl,rfl⟩:=hR.mir hR' hmd
   have hu:=hA'.uniq (mkA_turn hA).2
   simp only [Value.tuple.injEq,Array.mk.injEq,List.cons.injEq,Value.agg.injEq,Value.bool.injEq,Value.string.injEq,Value.int.injEq,and_true,true_and] at hu
   obtain ⟨⟨rfl,rfl,rfl⟩,rfl⟩:=hu
   refine ⟨_,_,false,false,hok,H,fun W=>?_,H2,again _ _ hok hf⟩
   exact near_cut g2 s x md _ _ _ _ _ _ z _ h hz hok hR hc0 hmd hcm hc (by omega) (by omega) (by omega) (by omega) W
end Go.Proofs.YtbblodioaedckaaGreat
