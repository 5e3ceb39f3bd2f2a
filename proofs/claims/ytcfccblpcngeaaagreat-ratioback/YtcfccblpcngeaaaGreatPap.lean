/- Of what RatioBackRow stands on: Take Div QMath. -/
import Derived.Test.YtcfccblpcngeaaaGreatPai
import Derived.Test.YtcfccblpcngeaaaGreatPab
import Derived.Test.YtcfccblpcngeaaaGreatPaa
import Derived.BigQuiet
import Derived.Test.YtcfccblpcngeaaaGreatPah
namespace Go.Proofs.YtcfccblpcngeaaaGreat
open Go.RowKit
set_option maxHeartbeats 1000000
theorem tk_step {o c p q s y A D B t r u:Int} (B':Int) (hB:B' = B * 4294967296) (h:o+B * c = A * p+D * q) (ht:t = c+(A * s+D * y)) (e:t = 4294967296 * u+r):(o+B * r)+B' * u = A * (p+B * s)+D * (q+B * y):=by
 subst hB
 have e1:B * t = B * 4294967296 * u+B * r:=by rw [e,Int.mul_add,Int.mul_assoc]
 have e2:B * t = B * c+(A * (B * s)+D * (B * y)):=by
  rw [ht,Int.mul_add,Int.mul_add,Int.mul_left_comm B A,Int.mul_left_comm B D]
 rw [Int.mul_add A,Int.mul_add D]
 omega
theorem tk_end {U P cu A D XL XH Y X:Int} (h:U+P * cu = A * XL+D * Y) (hX:X = A * (XL+P * XH)+D * Y) (hU0:0≤U) (hU1:U < P) (hX0:0≤X) (hX1:X < P):U = X:=by
 have e:X - U = P * (cu+A * XH):=by
  rw [hX,Int.mul_add A,Int.mul_add P,Int.mul_left_comm A P]
  omega
 have hz:cu+A * XH = 0:=by
  rcases Int.lt_trichotomy (cu+A * XH) 0 with h1|h1|h1
  ·have:P * (cu+A * XH)≤P * (-1):=Int.mul_le_mul_of_nonneg_left (by omega) (by omega)
   omega
  ·exact h1
  ·have:P * 1≤P * (cu+A * XH):=Int.mul_le_mul_of_nonneg_left (by omega) (by omega)
   omega
 rw [hz,Int.mul_zero] at e
 omega
theorem pr_pos {A:Int} {x:Nat} (h0:0≤A) (h1:A≤2147483647) (hx:x < 4294967296):0≤A * (x:Int)∧A * (x:Int)≤9223372030412324865:=by
 refine ⟨Int.mul_nonneg h0 (by omega),?_⟩
 have:A * (x:Int)≤2147483647 * 4294967295:=Int.mul_le_mul h1 (by omega) (by omega) (by omega)
 omega
theorem pr_neg {A:Int} {x:Nat} (h0:A≤0) (h1:-2147483647≤A) (hx:x < 4294967296):-9223372030412324865≤A * (x:Int)∧A * (x:Int)≤0:=by
 have:=pr_pos (A:=-A) (x:=x) (by omega) (by omega) hx
 rw [Int.neg_mul] at this
 omega
theorem pr_sum {A B:Int} {x y:Nat} (h:(0≤A∧B≤0)∨(A≤0∧0≤B)) (ha:-2147483647≤A∧A≤2147483647) (hb:-2147483647≤B∧B≤2147483647) (hx:x < 4294967296) (hy:y < 4294967296) :
  -9223372030412324865≤A * (x:Int)∧A * (x:Int)≤9223372030412324865∧-9223372030412324865≤B * (y:Int)∧B * (y:Int)≤9223372030412324865∧-9223372030412324865≤A * (x:Int)+B * (y:Int)∧A * (x:Int)+B * (y:Int)≤9223372030412324865:=by
 rcases h with ⟨h1,h2⟩|⟨h1,h2⟩
 ·have p:=pr_pos h1 ha.2 hx
  have q:=pr_neg h2 hb.1 hy
  omega
 ·have p:=pr_neg h1 ha.1 hx
  have q:=pr_pos h2 hb.2 hy
  omega
def TkInv (bx by' base:Nat) (xs ys:List Nat) (A B C D:Int) (w:World) (k:Nat) (cu cl:Int) (wr:World):Prop:=
 ∃ us ls:List Nat,us.length = k∧ls.length = k∧Pl.Wf us∧Pl.Wf ls∧((Pl.val us:Nat):Int)+((4294967296 ^ k:Nat):Int) * cu = A * ((Pl.val (xs.take k):Nat):Int)+B * ((Pl.val (ys.take k):Nat):Int) ∧
  ((Pl.val ls:Nat):Int)+((4294967296 ^ k:Nat):Int) * cl = C * ((Pl.val (xs.take k):Nat):Int)+D * ((Pl.val (ys.take k):Nat):Int) ∧
  Row wr bx (us ++ xs.drop k)∧Row wr by' (ls ++ ys.drop k)∧Box4 wr w.heap.size A B C D∧Below base w wr
theorem pow_cast_succ (k:Nat):((4294967296 ^ (k+1):Nat):Int) = ((4294967296 ^ k:Nat):Int) * 4294967296:=by rw [Nat.pow_succ,Int.natCast_mul]; rfl
theorem TkInv.step {bx by' base k:Nat} {xs ys:List Nat} {A B C D cu cl t1 t2:Int} {w wr wr':World} (h:TkInv bx by' base xs ys A B C D w k cu cl wr) (hkx:k < xs.length) (hky:k < ys.length) (hne:bx≠by') (hbx:base≤bx) (hby:base≤by') (hb4:w.heap.size≠bx) (hb5:w.heap.size≠by')
  (e1:t1 = cu+(A * ((xs[k]?.getD 0:Nat):Int)+B * ((ys[k]?.getD 0:Nat):Int))) (e2:t2 = cl+(C * ((xs[k]?.getD 0:Nat):Int)+D * ((ys[k]?.getD 0:Nat):Int)))
  (hw:wr' = (wr.setCell ⟨bx,k,none⟩ (.int .u32 (t1 % 4294967296))).setCell ⟨by',k,none⟩ (.int .u32 (t2 % 4294967296))) :
  TkInv bx by' base xs ys A B C D w (k+1) (t1 / 4294967296) (t2 / 4294967296) wr':=by
 obtain ⟨us,ls,hu,hl,wu,wl,v1,v2,r1,r2,b4,bel⟩:=h
 have m1:t1 % 4294967296 = (((t1 % 4294967296).toNat:Nat):Int):=by omega
 have m2:t2 % 4294967296 = (((t2 % 4294967296).toNat:Nat):Int):=by omega
 have s1:=set_mid [] us xs [] k (t1 % 4294967296).toNat hu hkx
 have s2:=set_mid [] ls ys [] k (t2 % 4294967296).toNat hl hky
 simp only [List.nil_append,List.append_nil,List.length_nil,Nat.zero_add] at s1 s2
 have q1:=r1.set k (t1 % 4294967296).toNat (by simp; omega)
 rw [s1,← m1] at q1
 have o1:Only bx wr (wr.setCell ⟨bx,k,none⟩ (.int .u32 (t1 % 4294967296))):=(Only.refl bx wr).setCell _ _
 have q2:=(r2.only o1 (Ne.symm hne)).set k (t2 % 4294967296).toNat (by simp; omega)
 rw [s2,← m2] at q2
 have o2:Only by' (wr.setCell ⟨bx,k,none⟩ (.int .u32 (t1 % 4294967296))) ((wr.setCell ⟨bx,k,none⟩ (.int .u32 (t1 % 4294967296))).setCell ⟨by',k,none⟩ (.int .u32 (t2 % 4294967296))):=(Only.refl _ _).setCell _ _
 refine ⟨us ++ [(t1 % 4294967296).toNat],ls ++ [(t2 % 4294967296).toNat],by simp [hu],by simp [hl],Pl.wf_append wu (Pl.wf_one (by omega)),Pl.wf_append wl (Pl.wf_one (by omega)),?_,?_,?_,?_,?_,?_⟩
 ·rw [Pl.val_append,Pl.val_one,hu,Pl.val_take_any xs k,Pl.val_take_any ys k,Int.natCast_add,Int.natCast_mul,Int.natCast_add,Int.natCast_mul,Int.natCast_add,Int.natCast_mul,← m1]
  exact tk_step _ (pow_cast_succ k) v1 e1 (by omega)
 ·rw [Pl.val_append,Pl.val_one,hl,Pl.val_take_any xs k,Pl.val_take_any ys k,Int.natCast_add,Int.natCast_mul,Int.natCast_add,Int.natCast_mul,Int.natCast_add,Int.natCast_mul,← m2]
  exact tk_step _ (pow_cast_succ k) v2 e2 (by omega)
 ·rw [hw]; exact q1.only o2 hne
 ·rw [hw]; exact q2
 ·rw [hw]
  unfold Box4
  rw [o2.block _ hb5,o1.block _ hb4]
  exact b4
 ·rw [hw]; exact (bel.setCell hbx _).setCell hby _
theorem TkInv.drewN {bx by' base k:Nat} {xs ys:List Nat} {A B C D cu cl:Int} {w wr:World} (h:TkInv bx by' base xs ys A B C D w k cu cl wr) (n:Nat):TkInv bx by' base xs ys A B C D w k cu cl (wr.drewN n):=by
 obtain ⟨us,ls,hu,hl,wu,wl,v1,v2,r1,r2,b4,bel⟩:=h
 exact ⟨us,ls,hu,hl,wu,wl,v1,v2,r1,r2,b4,below_drewN bel n⟩
theorem take_any (bx by' base nx n cx cy Xt Yt:Nat) (xs ys:List Nat) (A B C D:Int) (w:World) (hxl:Hid (xs.length = nx)) (hyl:Hid (ys.length = n)) (hnn:n≤nx) (hnb:nx≤16384) (hcx:nx≤cx) (hcy:n≤cy) (hcy2:cy≤9223372036854775807) (hXt:Hid (Pl.val xs = Xt)) (hYt:Hid (Pl.val ys = Yt))
  (hxw:Pl.Wf xs) (hyw:Pl.Wf ys) (hne:bx≠by') (hbx:base≤bx) (hby:base≤by') (hbw:base≤w.heap.size) (hRx:Row w bx xs) (hRy:Row w by' ys) (hT:Hid (Tru Xt Yt A B C D)) (hB0:Hid (B≠0)) (hSm:Sm A B C D) :
  Calls Tryz.prog 87 #[.agg #[.int .i64 A,.int .i64 B,.int .i64 C,.int .i64 D],.slice (some ⟨bx,0,none⟩) nx cx,.slice (some ⟨by',0,none⟩) n cy] w
   fun e w'=>(∃ l1 l2 X Y,e = .returned (.tuple #[.slice (some ⟨bx,0,none⟩) l1 l1,.slice (some ⟨by',0,none⟩) l2 l2])∧Mine w' base (some ⟨bx,0,none⟩) l1 l1 X∧Mine w' base (some ⟨by',0,none⟩) l2 l2 Y∧Nat.gcd X Y = Nat.gcd Xt Yt∧Y < X∧X≤Yt)∧Below base w w':=by
 obtain ⟨⟨hA1,hA2⟩,⟨hB1,hB2⟩,⟨hC1,hC2⟩,⟨hD1,hD2⟩,hsg⟩:=hSm
 have hxlt:=hRx.lt
 have hylt:=hRy.lt
 go_enter Tryz.func87,Tryz.ntmps87
 go_wp2
 go_loopw [9,10,22] (fun a b i wr=>∃ (k:Nat) (cu cl:Int),k≤n∧i = .int .i64 (k:Int)∧a = .int .i64 cu∧b = .int .i64 cl∧-2147483648≤cu∧cu≤2147483648∧-2147483648≤cl∧cl≤2147483648∧TkInv bx by' base xs ys A B C D w k cu cl wr) (fun _ _ i _=>n - (intOf i).toNat)
 case atStart=>
  refine ⟨0,0,0,Nat.zero_le _,rfl,rfl,rfl,by omega,by omega,by omega,by omega,[],[],rfl,rfl,Pl.wf_nil,Pl.wf_nil,by simp [Pl.val],by simp [Pl.val],by simpa using hRx.kept (gr_alloc _ _),by simpa using hRy.kept (gr_alloc _ _),?_,?_⟩
  ·exact heap_alloc_new w _
  ·exact (Below.refl _ _).alloc hbw _
 case round=>
  obtain ⟨k,cu,cl,hk,rfl,rfl,rfl,hu1,hu2,hl1,hl2,HI⟩:=hrel
  have hxl':=unhide hxl
  have hyl':=unhide hyl
  by_cases hkn:k < n
  ·obtain ⟨x,hxx⟩:∃ x,x = xs[k]?.getD 0:=⟨_,rfl⟩
   obtain ⟨y,hyy⟩:∃ y,y = ys[k]?.getD 0:=⟨_,rfl⟩
   have hx1:x < 4294967296:=by rw [hxx]; exact Pl.wf_at hxw k
   have hy1:y < 4294967296:=by rw [hyy]; exact Pl.wf_at hyw k
   have HI':=HI
   obtain ⟨us,ls,hus,hls,_,_,_,_,r1,r2,b4,_⟩:=HI'
   have a1:=at_mid [] us xs [] k hus (by omega)
   have a2:=at_mid [] ls ys [] k hls (by omega)
   simp only [List.nil_append,List.append_nil,List.length_nil,Nat.zero_add] at a1 a2
   have hcx1:wr.cell? ⟨bx,k,none⟩ = some (.int .u32 (x:Int)):=by rw [r1.cell k (by simp; omega),a1,hxx]
   have hcy1:wr.cell? ⟨by',k,none⟩ = some (.int .u32 (y:Int)):=by rw [r2.cell k (by simp; omega),a2,hyy]
   have hfx:=r1.frozen k
   have hfy:=r2.frozen k
   obtain ⟨k0,k1,k2,k3⟩:=b4.cells
   have P1:=pr_sum (x:=x) (y:=y) (A:=A) (B:=B) (by omega) ⟨hA1,hA2⟩ ⟨hB1,hB2⟩ hx1 hy1
   have P2:=pr_sum (x:=x) (y:=y) (A:=C) (B:=D) (by omega) ⟨hC1,hC2⟩ ⟨hD1,hD2⟩ hx1 hy1
   have HST:=hide (fun nq wr' t1 t2 e1 e2 e3=>TkInv.step (wr':=wr') (t1:=t1) (t2:=t2) (HI.drewN nq) (by omega) (by omega) hne hbx hby (by omega) (by omega) e1 e2 e3)
   rw [← hxx,← hyy] at HST
   clear HI hxx hyy r1 r2 b4 a1 a2
   obtain ⟨pA,hpA⟩:∃ t,A * (x:Int) = t:=⟨_,rfl⟩
   obtain ⟨pB,hpB⟩:∃ t,B * (y:Int) = t:=⟨_,rfl⟩
   obtain ⟨pC,hpC⟩:∃ t,C * (x:Int) = t:=⟨_,rfl⟩
   obtain ⟨pD,hpD⟩:∃ t,D * (y:Int) = t:=⟨_,rfl⟩
   rw [hpA,hpB] at P1 HST
   rw [hpC,hpD] at P2 HST
   obtain ⟨P11,P12,P13,P14,P15,P16⟩:=P1
   obtain ⟨P21,P22,P23,P24,P25,P26⟩:=P2
   clear hsg
   go_wp2
   go_quiet (fail)
   have hfx':(wr.drewN nq).frozen? ⟨bx,k,none⟩ = false:=hfx
   have hfy':(wr.drewN nq).frozen? ⟨by',k,none⟩ = false:=hfy
   have hcx':(wr.drewN nq).cell? ⟨bx,k,none⟩ = some (.int .u32 (x:Int)):=hcx1
   have hcy':(wr.drewN nq).cell? ⟨by',k,none⟩ = some (.int .u32 (y:Int)):=hcy1
   have k0':(wr.drewN nq).cell? ⟨w.heap.size,0,none⟩ = some (.int .i64 A):=k0
   have k1':(wr.drewN nq).cell? ⟨w.heap.size,1,none⟩ = some (.int .i64 B):=k1
   have k2':(wr.drewN nq).cell? ⟨w.heap.size,2,none⟩ = some (.int .i64 C):=k2
   have k3':(wr.drewN nq).cell? ⟨w.heap.size,3,none⟩ = some (.int .i64 D):=k3
   have HS2:=hide (unhide HST nq)
   clear HST hfx hfy hcx1 hcy1 k0 k1 k2 k3
   generalize wr.drewN nq = wq at *
   go_wp2
   go_roundw
   case rel=>exact ⟨k+1,(cu+(pA+pB)) / 4294967296,(cl+(pC+pD)) / 4294967296,by omega,by go_num,rfl,rfl,by omega,by omega,by omega,by omega,unhide HS2 _ _ _ rfl rfl rfl⟩
   case measure=>simp [intOf]; omega
  ·have hke:k = n:=by omega
   subst hke
   obtain ⟨us,ls,hus,hls,wu,wl,v1,v2,r1,r2,b4,bel⟩:=HI
   have hyt:ys.take k = ys:=List.take_of_length_le (by omega)
   have hyd:ys.drop k = []:=List.drop_eq_nil_of_le (by omega)
   rw [hyt,unhide hYt] at v1 v2
   rw [hyd,List.append_nil] at r2
   obtain ⟨X,Y,hX,hY,hg,hcase⟩:=unhide hT
   obtain ⟨hYX,hXY⟩:=hcase.resolve_left (fun h=>absurd h.2.1 (unhide hB0))
   have hYb:Yt < 4294967296 ^ k:=by have:=Pl.val_lt hyw; rwa [hyl',unhide hYt] at this
   have hsp:=Pl.val_split xs k (by omega)
   rw [unhide hXt] at hsp
   have hul:=Pl.val_lt wu
   have hll:=Pl.val_lt wl
   rw [hus] at hul
   rw [hls] at hll
   have hU:Pl.val us = X:=by
    have:=tk_end (XH:=((Pl.val (xs.drop k):Nat):Int)) v1 (by rw [hX,hsp,Int.natCast_add,Int.natCast_mul]) (Int.natCast_nonneg _) (Int.ofNat_lt.2 hul) (Int.natCast_nonneg X) (Int.ofNat_lt.2 (Nat.lt_of_le_of_lt hXY hYb))
    exact Int.ofNat.inj this
   have hL:Pl.val ls = Y:=by
    have:=tk_end (XH:=((Pl.val (xs.drop k):Nat):Int)) v2 (by rw [hY,hsp,Int.natCast_add,Int.natCast_mul]) (Int.natCast_nonneg _) (Int.ofNat_lt.2 hll) (Int.natCast_nonneg Y) (Int.ofNat_lt.2 (Nat.lt_trans (Nat.lt_of_lt_of_le hYX hXY) hYb))
    exact Int.ofNat.inj this
   have r1':Row wr bx us:=by
    have:=r1.prefix k
    rwa [List.take_append_of_le_length (by omega),List.take_of_length_le (by omega)] at this
   have HF:=hide (And.intro hU (And.intro hL (And.intro hg (And.intro hYX hXY))))
   clear v1 v2 hX hY hg hcase hYb hsp hul hll hU hL r1 hyt hyd hYX hXY b4 hsg
   go_wp2_with fail
   refine (trim_at bx 0 k k us wr hus (Nat.le_refl _) (by omega) (fun j hj=>by rw [Nat.zero_add]; exact r1'.cell j hj)).mono ?_
   rintro e w1 ⟨rfl,l1,hl1,z0,z1,rfl⟩
   have HT1:=hide (trim_row r1' hbx (by omega) wu hl1 z0 z1)
   clear z0 z1
   go_wp2_with fail
   refine (trim_at by' 0 k cy ls wr hls ?_ ?_ (fun j hj=>by rw [Nat.zero_add]; exact r2.cell j hj)).mono ?_
   ·exact hcy
   ·exact hcy2
   rintro e w2 ⟨rfl,l2,hl2,z0,z1,rfl⟩
   have HT2:=hide (trim_row r2 hby (by omega) wl hl2 z0 z1)
   clear z0 z1
   go_wp2
   go_ret2
   obtain ⟨f1,f2,f3,f4,f5⟩:=unhide HF
   obtain ⟨t1,t2,t3,t4,t5⟩:=unhide HT1
   obtain ⟨u1,u2,u3,u4,u5⟩:=unhide HT2
   exact ⟨⟨l1,l2,X,Y,rfl,⟨_,t1,t2,t3,t4,t5.trans f1,by omega⟩,⟨_,u1,u2,u3,u4,u5.trans f2,by omega⟩,f3,f4,f5⟩,bel⟩
theorem num_one {w:World} {a:Option Addr} {m:Nat} (h:Num w a 1 m):0 < m∧m < 4294967296∧∃ b off,a = some ⟨b,off,none⟩∧b < w.heap.size∧w.cell? ⟨b,off,none⟩ = some (.int .u32 (m:Int)):=by
 have hz:=h.zero
 obtain ⟨xs,hn,hl,hw,hN,hv,hb⟩:=h
 match xs,hn with
 | [x],_=>
  have hx:x = m:=by rw [← hv]; simp [Pl.val]
  subst hx
  rcases hl.parts with hx|⟨hp,b,off,ha,hlt,hc⟩
  ·cases hx
  ·exact ⟨by omega,Pl.wf_head hw,b,off,ha,hlt,by have:=hc 0 (by simp); simpa using this⟩
def DivRes (w:World) (base:Nat) (e:Ending) (q r:Nat):Prop:=
 ∃ aq nq cq ar nr cr,e = .returned (.tuple #[.slice aq nq cq,.slice ar nr cr])∧Mine w base aq nq cq q∧Mine w base ar nr cr r
theorem mine_nil' (w:World) (base:Nat):Mine w base none 0 0 0:=⟨[],rfl,Or.inl ⟨rfl,rfl⟩,Pl.wf_nil,Pl.norm_nil,rfl,by omega⟩
theorem divide_lt (a a':Option Addr) (n n' cap cap' m m':Nat) (w:World) (h:Num w a n m) (h':Num w a' n' m') (hlt:m < m') :
  Calls Tryz.prog 67 #[.slice a n cap,.slice a' n' cap'] w fun e w'=>DivRes w' w.heap.size e (m / m') (m % m')∧Below w.heap.size w w':=by
 rw [Nat.div_eq_of_lt hlt,Nat.mod_eq_of_lt hlt]
 have hcm:=cmpI_lt hlt
 clear hlt
 go_enter Tryz.func67,Tryz.ntmps67
 go_wp2_with fail
 refine (compare_any a a' n n' cap cap' m m' w h h').mono ?_
 rintro e w1 ⟨rfl,hb1⟩
 rw [hcm]
 have h1:=h.kept hb1
 go_wp2_with fail
 refine (clone_any a n cap m w1 h1).mono ?_
 rintro e w2 ⟨⟨a2,c2,rfl,hm2⟩,hb2⟩
 have HM:=hide (hm2.mono hb1.size)
 clear hm2
 go_wp2
 go_ret2
 exact ⟨⟨none,0,0,a2,n,c2,rfl,mine_nil' _ _,unhide HM⟩,gr_trans hb1 hb2⟩
theorem heap_alloc_lc (w:World) (x:Nat):Row (w.alloc (.cells #[.int .u32 (x:Int)] 25)) w.heap.size [x]:=by
 refine ⟨#[],?_⟩
 rw [heap_alloc_new]
 simp [lc]
theorem divide_one (a:Option Addr) (b' off' n cap cap' m d:Nat) (w:World) (h:Num w a n m) (h':Num w (some ⟨b',off',none⟩) 1 d) (hge:d≤m) (hd0:0 < d) (hd:d < 4294967296) (hlt:b' < w.heap.size) (hc:w.cell? ⟨b',off',none⟩ = some (.int .u32 (d:Int))) :
  Calls Tryz.prog 67 #[.slice a n cap,.slice (some ⟨b',off',none⟩) 1 cap'] w fun e w'=>DivRes w' w.heap.size e (m / d) (m % d)∧Below w.heap.size w w':=by
 have hnn:¬ cmpI m d < 0:=by
  by_cases e:m = d
  ·rw [e,cmpI_eq]; decide
  ·rw [cmpI_gt (by omega)]; decide
 have hnd:decide (cmpI m d < 0) = false:=by simpa using hnn
 clear hnn
 have hN:=h
 obtain ⟨xs,hn,hl,hw,hNn,hv,hb⟩:=h
 rcases hl.parts with hx|⟨hp,b,off,rfl,hltb,hcx⟩
 ·have:m = 0:=by rw [← hv,hx]; rfl
  omega
 ·have HX:Hid (xs.length = n):=hn
  have HV:Hid (Pl.val xs = m):=hv
  have hcx':∀ j,j < n→w.cell? ⟨b,off+j,none⟩ = some (.int .u32 ((xs[j]?.getD 0:Nat):Int)):=fun j hj=>hcx j (by omega)
  have HCX:=hide hcx'
  clear hn hv hcx hcx' hp
  go_enter Tryz.func67,Tryz.ntmps67
  go_wp2_with fail
  refine (compare_any _ _ n 1 cap cap' m d w hN h').mono ?_
  rintro e w1 ⟨rfl,hb1⟩
  have hc1:w1.cell? ⟨b',off',none⟩ = some (.int .u32 (d:Int)):=(hb1.cell (by exact hlt)).trans hc
  have hs1:=hb1.size
  clear hN h'
  go_wp2_with fail
  refine (divideByLimb_any b off cap d n xs w1 HX hb hd0 hd hw (by omega) (fun j hj=>(hb1.cell (by exact hltb)).trans (unhide HCX j hj))).mono ?_
  rintro e w2 ⟨k,qs,rfl,hk,hql,hO,hqw,hqN,hqv,hb2⟩
  rw [unhide HV] at hqv ⊢
  obtain ⟨r,hr⟩:∃ r,r = m % d:=⟨_,rfl⟩
  have hrd:r < d:=by rw [hr]; exact Nat.mod_lt _ hd0
  rw [← hr]
  have HR:=hide hr
  have HM:=hide (show Mine w2 w1.heap.size (some ⟨w1.heap.size,0,none⟩) k k (m / d) from ⟨qs,hql,hO,hqw,hqN,hqv,by omega⟩)
  clear hr hO hqv
  go_wp2_with fail
  have hrow:=heap_alloc_lc w2 r
  refine (trim_at w2.heap.size 0 1 1 [r] _ rfl (Nat.le_refl _) (by omega) (fun j hj=>by rw [Nat.zero_add]; exact hrow.cell j hj)).mono ?_
  rintro e w3 ⟨rfl,l,hl1,h0,h1,rfl⟩
  have hl2:l≤1:=hl1
  have HT:=hide (trim_row hrow (Nat.le_refl _) (by simp) (Pl.wf_one (by omega)) hl1 h0 h1)
  clear h0 h1 hl1 hrow
  go_wp2
  go_ret2
  obtain ⟨t1,t2,t3,t4,t5⟩:=unhide HT
  refine ⟨⟨_,k,k,_,l,l,rfl,((unhide HM).mono hs1).alloc _,[r].take l,t1,t2.mono (Nat.le_trans hs1 hb2.size),t3,t4,by rw [t5,Pl.val_one]; exact unhide HR,by omega⟩,gr_trans (gr_trans hb1 hb2) (gr_alloc _ _)⟩
theorem divide_short (a a':Option Addr) (n cap cap' m d:Nat) (w:World) (h:Num w a n m) (h':Num w a' 1 d) :
  Calls Tryz.prog 67 #[.slice a n cap,.slice a' 1 cap'] w fun e w'=>DivRes w' w.heap.size e (m / d) (m % d)∧Below w.heap.size w w':=by
 by_cases hlt:m < d
 ·exact divide_lt a a' n 1 cap cap' m d w h h' hlt
 ·obtain ⟨h1,h2,b,off,rfl,h3,h4⟩:=num_one h'
  exact divide_one a b off n cap cap' m d w h h' (by omega) h1 h2 h3 h4
def DivAns (w:World) (base:Nat) (e:Ending) (m d:Nat):Prop:=
 (d = 0∧e = .returned (.tuple #[.agg #[.slice none 0 0],.agg #[.slice none 0 0],.int .i64 11])) ∨
 (0 < d∧∃ aq nq cq ar nr cr,e = .returned (.tuple #[.agg #[.slice aq nq cq],.agg #[.slice ar nr cr],.int .i64 0])∧Mine w base aq nq cq (m / d)∧Mine w base ar nr cr (m % d))
theorem div_zero (a a':Option Addr) (n cap cap' m:Nat) (w:World) (h:Num w a n m) :
  Calls Tryz.prog 61 #[.agg #[.slice a n cap],.agg #[.slice a' 0 cap']] w fun e w'=>DivAns w' w.heap.size e m 0∧Below w.heap.size w w':=by
 obtain ⟨xs,hn,hl,hw,hN,hv,hb⟩:=h
 have hck:=fun (o1 o2 o3 o4:Obj)=>checkBoth_any a a' cap cap' xs [] ((((w.alloc o1).alloc o2).alloc o3).alloc o4) (by omega) (by simp) ((((hl.alloc _).alloc _).alloc _).alloc _) (Or.inl rfl)
 rw [hn,chk2_ok (chk_ok (by omega) hN) (chk_ok (by simp) Pl.norm_nil)] at hck
 have HK:=hide hck
 clear hck hl
 go_enter Tryz.func61,Tryz.ntmps61
 go_wp2_with fail
 refine (unhide HK _ _ _ _).mono ?_
 rintro e w1 ⟨rfl,hb1⟩
 obtain ⟨hc1,hf1⟩:=bcell hb1
 have hB:=hide (gr_trans (gr_trans (gr_trans (gr_trans (gr_alloc _ _) (gr_alloc _ _)) (gr_alloc _ _)) (gr_alloc _ _)) hb1)
 clear hb1 HK
 go_wp2
 exact bodyPost_ret (v:=.tuple #[.agg #[.slice none 0 0],.agg #[.slice none 0 0],.int .i64 11]) (by simp [results,Tryz.results61,go_sem,hc1]) rfl ⟨Or.inl ⟨rfl,rfl⟩,((unhide hB).setCell (p:=⟨w.heap.size+1+1,0,none⟩) (by simp; omega) _).setCell (by simp; omega) _⟩
theorem div_of (a a':Option Addr) (n n' cap cap' m d:Nat) (w:World) (h:Num w a n m) (h':Num w a' n' d) (hd:0 < d)
  (hdiv:Hid (∀ w1,Num w1 a n m→Num w1 a' n' d→Calls Tryz.prog 67 #[.slice a n cap,.slice a' n' cap'] w1 fun e w'=>DivRes w' w1.heap.size e (m / d) (m % d)∧Below w1.heap.size w1 w')) :
  Calls Tryz.prog 61 #[.agg #[.slice a n cap],.agg #[.slice a' n' cap']] w fun e w'=>DivAns w' w.heap.size e m d∧Below w.heap.size w w':=by
 have hz:=h'.zero
 have hn0:((n':Int) == 0) = false:=by simp; omega
 have H:=hide h
 have H':=hide h'
 obtain ⟨xs,hn,hl,hw,hN,hv,hb⟩:=h
 obtain ⟨ys,hn',hl',hw',hN',hv',hb'⟩:=h'
 have hck:=fun (o1 o2 o3 o4:Obj)=>checkBoth_any a a' cap cap' xs ys ((((w.alloc o1).alloc o2).alloc o3).alloc o4) (by omega) (by omega) ((((hl.alloc _).alloc _).alloc _).alloc _) ((((hl'.alloc _).alloc _).alloc _).alloc _)
 rw [hn,hn',chk2_ok (chk_ok (by omega) hN) (chk_ok (by omega) hN')] at hck
 have HK:=hide hck
 clear hck hl hl' hz hn hn' hv hv'
 go_enter Tryz.func61,Tryz.ntmps61
 go_wp2_with fail
 refine (unhide HK _ _ _ _).mono ?_
 rintro e w1 ⟨rfl,hb1⟩
 obtain ⟨hc1,hf1⟩:=bcell hb1
 have hB:=hide (gr_trans (gr_trans (gr_trans (gr_trans (gr_alloc w (.cells #[.slice a n cap] 28)) (gr_alloc _ (.cells #[.slice a' n' cap'] 28))) (gr_alloc _ (.cells #[.slice none 0 0] 28))) (gr_alloc _ (.cells #[.slice none 0 0] 28))) hb1)
 have hbx:=((Box.made ((w.alloc (.cells #[.slice a n cap] 28)).alloc (.cells #[.slice a' n' cap'] 28)) (.slice none 0 0)).alloc (.cells #[.slice none 0 0] 28)).kept hb1
 have hby:=(Box.made (((w.alloc (.cells #[.slice a n cap] 28)).alloc (.cells #[.slice a' n' cap'] 28)).alloc (.cells #[.slice none 0 0] 28)) (.slice none 0 0)).kept hb1
 simp only [World.size_alloc] at hbx hby
 have HBX:=hide hbx
 have HBY:=hide hby
 clear hb1 HK hbx hby
 go_wp2_with fail
 refine (unhide hdiv w1 ((unhide H).kept (unhide hB)) ((unhide H').kept (unhide hB))).mono ?_
 rintro e w2 ⟨⟨aq,nq,cq,ar,nr,cr,rfl,hq,hr⟩,hb2⟩
 have hbx2:=(unhide HBX).kept hb2
 have hby2:=(unhide HBY).kept hb2
 have hcx:=hbx2.cell
 have hfx:=hbx2.frozen
 have hcy:=hby2.cell
 have hfy:=hby2.frozen
 have hby3:=hby2.other (a:=⟨w.heap.size+1+1,0,none⟩) (show w.heap.size+1+1+1≠w.heap.size+1+1 by omega) (.slice aq nq cq)
 have hsz:=(unhide hB).size
 have HQ:=hide (((hq.mono hsz).setBox hbx2 (.slice aq nq cq)).setBox hby3 (.slice ar nr cr))
 have HR:=hide (((hr.mono hsz).setBox hbx2 (.slice aq nq cq)).setBox hby3 (.slice ar nr cr))
 have HB2:=hide (gr_trans (unhide hB) hb2)
 clear hq hr hb2 hbx2 hby2 hby3 hc1 hf1
 go_wp2
 exact bodyPost_ret (v:=.tuple #[.agg #[.slice aq nq cq],.agg #[.slice ar nr cr],.int .i64 0]) (by simp [results,Tryz.results61,go_sem,hcx,hcy]) rfl ⟨Or.inr ⟨hd,_,_,_,_,_,_,rfl,unhide HQ,unhide HR⟩,((unhide HB2).setCell (p:=⟨w.heap.size+1+1,0,none⟩) (by simp; omega) _).setCell (by simp; omega) _⟩
theorem dg_of {K D P top next p2 p1 p0 lD lP:Nat} (hK:0 < K) (hD:D = lD+K * (next+4294967296 * top)) (hP:P = lP+K * (p0+4294967296 * (p1+4294967296 * p2))) (hlP:lP < K)
  (h0:p0 < 4294967296) (h1:p1 < 4294967296) (htop:0 < top) (hnx:next < 4294967296) (hlt:P < 4294967296 * D) (hp2:p2≤top):Dg (P / D) top next p2 p1 p0:=by
 have hDpos:0 < D:=by
  have:0 < K * (next+4294967296 * top):=Nat.mul_pos hK (by omega)
  omega
 have hPup:P < K * (p0+1+4294967296 * (p1+4294967296 * p2)):=by
  have e:K * (p0+1+4294967296 * (p1+4294967296 * p2)) = K * (p0+4294967296 * (p1+4294967296 * p2))+K:=by
   rw [show p0+1+4294967296 * (p1+4294967296 * p2) = (p0+4294967296 * (p1+4294967296 * p2))+1 by omega,Nat.mul_add,Nat.mul_one]
  omega
 have hDlow:∀ g,K * (g * next+4294967296 * (g * top))≤g * D:=fun g=>by
  have e:K * (g * next+4294967296 * (g * top)) = g * (K * (next+4294967296 * top)):=by
   rw [Nat.mul_left_comm g K,Nat.mul_add g,Nat.mul_left_comm g]
  rw [e]
  exact Nat.mul_le_mul_left g (by omega)
 have hqD:P / D * D≤P:=Nat.div_mul_le_self P D
 refine ⟨?_,htop,?_,?_,?_⟩
 ·exact (Nat.div_lt_iff_lt_mul hDpos).2 hlt
 ·by_cases h:P / D * top≤p2 * 4294967296+p1
  ·exact h
  ·have a1:=hDlow (P / D)
   generalize P / D = q at *
   have a2:K * (p0+1+4294967296 * (p1+4294967296 * p2))≤K * (q * next+4294967296 * (q * top)):=Nat.mul_le_mul_left K (by
    generalize q * top = z at *
    generalize q * next = y at *
    omega)
   omega
 ·intro g l e hm
  have a1:=hDlow g
  have a2:K * (p0+1+4294967296 * (p1+4294967296 * p2))≤K * (g * next+4294967296 * (g * top)):=Nat.mul_le_mul_left K (by
   generalize g * top = z at *
   generalize g * next = y at *
   omega)
  exact (Nat.div_lt_iff_lt_mul hDpos).2 (by omega)
 ·intro g l e hl
  have:g * top < 4294967296 * top:=by
   generalize g * top = z at *
   omega
  exact Nat.lt_of_mul_lt_mul_right this
theorem split2 (xs:List Nat) (m:Nat) (h:xs.length = m+2):Pl.val xs = Pl.val (xs.take m)+4294967296 ^ m * (xs[m]?.getD 0+4294967296 * xs[m+1]?.getD 0):=by
 rw [Pl.val_split xs m (by omega),Pl.drop_cons xs m (by omega),Pl.drop_cons xs (m+1) (by omega),List.drop_eq_nil_of_le (by omega)]
 simp [Pl.val]
theorem split3 (xs:List Nat) (m:Nat) (h:xs.length = m+3):Pl.val xs = Pl.val (xs.take m)+4294967296 ^ m * (xs[m]?.getD 0+4294967296 * (xs[m+1]?.getD 0+4294967296 * xs[m+2]?.getD 0)):=by
 rw [Pl.val_split xs m (by omega),Pl.drop_cons xs m (by omega),Pl.drop_cons xs (m+1) (by omega),Pl.drop_cons xs (m+2) (by omega),List.drop_eq_nil_of_le (by omega)]
 simp [Pl.val]
theorem low_pow {xs:List Nat} (w:Pl.Wf xs) (m:Nat) (h:m≤xs.length):Pl.val (xs.take m) < 4294967296 ^ m:=by
 have:=Pl.val_lt (Pl.wf_take w m)
 rwa [List.length_take,Nat.min_eq_left h] at this
theorem top_le {K D T t p l:Nat} (hD:D < K * (t+1)) (hT:T = l+K * p) (hlt:T < D):p≤t:=by
 by_cases h:p≤t
 ·exact h
 ·have:K * (t+1)≤K * p:=Nat.mul_le_mul_left K (by omega)
  omega
theorem dg_limbs {m z:Nat} {xs rs:List Nat} (hx:xs.length = m+2) (hr:rs.length = m+2) (wx:Pl.Wf xs) (wr:Pl.Wf rs) (hz:z < 4294967296) (ht:xs[m+1]?.getD 0≠0) (hlt:Pl.val rs < Pl.val xs) :
  Dg (Pl.val (z :: rs) / Pl.val xs) (xs[m+1]?.getD 0) (xs[m]?.getD 0) ((z :: rs)[m+2]?.getD 0) ((z :: rs)[m+1]?.getD 0) ((z :: rs)[m]?.getD 0):=by
 have wd:Pl.Wf (z :: rs):=Pl.wf_cons hz wr
 refine dg_of (K:=4294967296 ^ m) (Nat.pow_pos (by decide)) (split2 xs m hx) (split3 (z :: rs) m (by simp [hr])) (low_pow wd m (by simp [hr]; omega)) (Pl.wf_at wd _) (Pl.wf_at wd _) (by omega) (Pl.wf_at wx _) ?_ ?_
 ·show z+4294967296 * Pl.val rs < 4294967296 * Pl.val xs
  omega
 ·rw [List.getElem?_cons_succ]
  have e1:=split2 rs m hr
  have e2:=split2 xs m hx
  have l1:=low_pow wx m (by omega)
  have n1:xs[m]?.getD 0 < 4294967296:=Pl.wf_at wx m
  refine top_le (K:=4294967296 ^ m * 4294967296) (l:=Pl.val (rs.take m)+4294967296 ^ m * rs[m]?.getD 0) ?_ ?_ hlt
  ·rw [e2]
   exact top_bound l1 n1
  ·rw [e1,Nat.mul_add,← Nat.mul_assoc,← Nat.add_assoc]
where
 top_bound {K l n t:Nat} (hl:l < K) (hn:n < 4294967296):l+K * (n+4294967296 * t) < K * 4294967296 * (t+1):=by
  have:K * (n+1)≤K * 4294967296:=Nat.mul_le_mul_left K hn
  rw [Nat.mul_add,Nat.mul_add,← Nat.mul_assoc,Nat.mul_one]
  rw [Nat.mul_add,Nat.mul_one] at this
  omega
theorem q_done {V g P D:Nat} (hD:0 < D) (h:V+g * D = P) (hq:P / D≤g):g = P / D∧V < D:=by
 have h1:g * D≤P:=by omega
 have h2:g≤P / D:=(Nat.le_div_iff_mul_le hD).2 h1
 have h3:g = P / D:=by omega
 refine ⟨h3,?_⟩
 have h4:=Nat.lt_div_mul_add hD (a:=P)
 rw [← h3] at h4
 omega
theorem q_more {V g P D M:Nat} (hV:V < M) (h:V+g * D = P+M):P / D < g:=by
 have hD:0 < D:=by
  cases D with
  | zero=>simp at h; omega
  | succ D=>omega
 rw [Nat.div_lt_iff_lt_mul hD]
 omega
theorem q_back {V V' g P D M c:Nat} (h:V+(g+1) * D = P+M * 1) (ha:V'+M * c = V+D) (hc:c≤1):V'+g * D = P+M * (1 - c):=by
 rw [Nat.add_mul,Nat.one_mul] at h
 rcases Nat.le_one_iff_eq_zero_or_eq_one.1 hc with rfl|rfl
 ·simp at ha ⊢; omega
 ·simp at ha ⊢; omega
theorem top_zero {out:List Nat} {n D:Nat} (hl:out.length = n+1) (h:Pl.val out < D) (hD:D≤4294967296 ^ n):out = out.take n ++ [0]∧Pl.val (out.take n) = Pl.val out:=by
 have e:=Pl.take_snoc out n (by omega)
 rw [List.take_of_length_le (by omega)] at e
 have hv:=Pl.val_take_any out n
 rw [List.take_of_length_le (by omega:out.length≤n+1)] at hv
 have h0:out[n]?.getD 0 = 0:=by
  cases hz:out[n]?.getD 0 with
  | zero=>rfl
  | succ z=>
   rw [hz,Nat.mul_add,Nat.mul_one] at hv
   omega
 rw [h0] at e hv
 exact ⟨e,by simpa using hv.symm⟩
end Go.Proofs.YtcfccblpcngeaaaGreat
