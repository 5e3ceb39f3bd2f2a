/- Of what DigitsNamesRow stands on: DcNearN DcDifN RzTog Rc8Rat DxNum. -/
import Derived.Test.YtplihgoapiiigaaGreatDoorPbh
import Derived.Test.YtplihgoapiiigaaGreatDoorPba
import Derived.Test.YtplihgoapiiigaaGreatDoorPad
import Derived.Test.YtplihgoapiiigaaGreatDoorPaz
import Derived.Test.YtplihgoapiiigaaGreatDoorPaq
import Derived.Test.YtplihgoapiiigaaGreatDoorPal
import Derived.Test.YtplihgoapiiigaaGreatDoorPaj
import Derived.Test.YtplihgoapiiigaaGreatDoorPaw
import Derived.Test.YtplihgoapiiigaaGreatDoorPag
import Derived.Test.YtplihgoapiiigaaGreatDoorPbf
import Derived.Test.YtplihgoapiiigaaGreatDoorPab
import Derived.BigQuiet
import Derived.Laws.StructEq
import Derived.Test.YtplihgoapiiigaaGreatDoorPbc
import Derived.Test.YtplihgoapiiigaaGreatDoorPbd
import Derived.Test.YtplihgoapiiigaaGreatDoorPat
import Derived.Test.YtplihgoapiiigaaGreatDoorPau
import Derived.Test.YtplihgoapiiigaaGreatDoorPaf
import Derived.Test.YtplihgoapiiigaaGreatDoorPai
import Derived.Test.YtplihgoapiiigaaGreatDoorPao
import Derived.Test.YtplihgoapiiigaaGreatDoorPah
import Derived.Deep.LoopGhost
import Derived.Test.YtplihgoapiiigaaGreatDoorPak
import Derived.Test.YtplihgoapiiigaaGreatDoorPay
namespace Go.Proofs.YtplihgoapiiigaaGreatDoor
open Go.RowKit
def rdist (c R:Nat) (up:Bool):Nat:=if up then 10 ^ c - R else R
theorem ten_half {c:Nat} (h:0 < c):10 ^ c = 2 * (5 * 10 ^ (c - 1)):=by
 obtain ⟨k,rfl⟩:∃ k,c = k+1:=⟨c - 1,by omega⟩
 rw [Nat.pow_succ,Nat.add_sub_cancel]
 omega
theorem Rnd.dist {s:ByteArray} {g:Bool} {md c Q R:Nat} {up:Bool} (h:Rnd s g md c Q R up) (hc:0 < c) (hmd:md≤4) :
  0 < rdist c R up∧rdist c R up < 10 ^ c ∧
  (up = true→(Q+(if up then 1 else 0)) * 10 ^ c = valS s+rdist c R up) ∧
  (up = false→valS s = (Q+(if up then 1 else 0)) * 10 ^ c+rdist c R up) ∧
  (md = 3→up = !g)∧(md = 4→up = g)∧(md = 2→up = false) ∧
  (md≤1→rdist c R up≤5 * 10 ^ (c - 1)):=by
 obtain ⟨hv,hp,hl,hu⟩:=h
 have ht:=ten_half hc
 unfold rdist
 refine ⟨?_,?_,?_,?_,?_,?_,?_,?_⟩
 ·cases up <;> simp <;> omega
 ·cases up <;> simp <;> omega
 ·rintro rfl
  rw [if_pos rfl,if_pos rfl,hv,Nat.add_mul]
  omega
 ·rintro rfl
  rw [if_neg (by decide),if_neg (by decide),hv,Nat.add_zero]
 ·rintro rfl
  exact hu
 ·rintro rfl
  exact hu
 ·rintro rfl
  exact hu
 ·intro h1
  have h01:md = 0∨md = 1:=by omega
  generalize 5 * 10 ^ (c - 1) = H at *
  have hz:(R < H∧cmpZ (R:Int) (H:Int) = -1)∨(H < R∧cmpZ (R:Int) (H:Int) = 1)∨(R = H∧cmpZ (R:Int) (H:Int) = 0):=by
   unfold cmpZ
   rcases Nat.lt_trichotomy R H with q|q|q
   ·exact Or.inl ⟨q,if_pos (by omega)⟩
   ·exact Or.inr (Or.inr ⟨q,by rw [if_neg (by omega),if_neg (by omega)]⟩)
   ·exact Or.inr (Or.inl ⟨q,by rw [if_neg (by omega),if_pos (by omega)]⟩)
  rcases hz with ⟨q,e⟩|⟨q,e⟩|⟨q,e⟩
  ·have:up = false:=by
    rw [hu,e]
    rcases h01 with rfl|rfl <;> simp [gOut]
   subst this
   simp; omega
  ·have:up = true:=by
    rw [hu,e]
    rcases h01 with rfl|rfl <;> simp [gOut]
   subst this
   simp; omega
  ·cases up <;> simp <;> omega
theorem DcOk.lst {s:ByteArray} {x:Int} (h:DcOk s x):∀ k,(hk:k+1 = s.size)→(s[k]'(by omega)).toNat≠48:=fun k hk=>by
 refine h.cd.2 _ ?_
 have hz:s.data.size = s.size:=rfl
 rw [List.getLast?_eq_getElem?,Array.length_toList,List.getElem?_eq_getElem (by rw [Array.length_toList]; omega)]
 have hk2:s.data.size - 1 = k:=by omega
 subst hk2
 rfl
theorem DcOk.chk {s:ByteArray} {x:Int} (h:DcOk s x) (g:Bool) (W:World) :
  Calls Tryz.prog 41 #[.agg #[.bool g,.string s,.int .i64 x]] W fun en W'=>en = .returned (.int .i64 0)∧Below W.heap.size W W':=by
 by_cases h0:s.size = 0
 ·exact dck_z0 W g s x h.sz h0 (h.zero h0)
 ·exact chk_good g s x h.sz h0 h.ok h.fst h.lst h.lo h.hi W
def apart (M N:Nat):Nat:=if N < M then M - N else N - M
theorem mkA_near {g:Bool} {D:Nat} {x:Int} {V:Value} (h:MkA g D x V) (h0:D≠0) (hD:D < tenTop 65536) (hx0:-1073741824≤x) (hx1:x≤1000000000) :
  ∃ (s3:ByteArray) (z:Nat),V = .tuple #[.agg #[.bool g,.string s3,.int .i64 (x+(z:Int))],.int .i64 0]∧DcOk s3 (x+(z:Int))∧valS s3 * 10 ^ z = D:=by
 rcases h with ⟨e,_⟩|⟨t,n,z,h1,h10,hS,h⟩
 ·exact absurd e h0
 have hz:z < 65536:=by
  rcases Nat.lt_or_ge z 65536 with q|q
  ·exact q
  ·exfalso
   have a1:=tenTop_le q
   have a2:10 ^ z≤n * 10 ^ z:=Nat.le_mul_of_pos_left _ (by omega)
   omega
 have hle:n≤D:=by rw [h1]; exact Nat.le_mul_of_pos_right _ (Nat.pow_pos (by omega))
 rcases h with ⟨hr,_⟩|⟨hr,hV⟩
 ·omega
 ·obtain ⟨k1,k2,_⟩:=says_ok hS h10 (Nat.lt_of_le_of_lt hle hD) (y:=x+(z:Int)) (by omega) (by omega)
  exact ⟨t,z,hV,k1,by rw [k2,h1]⟩
def c5 (B m1 m2 m3 m4 m5:Nat) (b:Bool):Cf:=.pl (fun q=>.agg #[.slice q.A q.N q.C,.slice q.A' q.N' q.C',.slice q.A2 q.N2 q.C2,.slice q.A3 q.N3 q.C3,.slice q.A4 q.N4 q.C4,.bool b]) (fun q W=>Mine W B q.A q.N q.C m1∧Mine W B q.A' q.N' q.C' m2∧Mine W B q.A2 q.N2 q.C2 m3∧Mine W B q.A3 q.N3 q.C3 m4∧Mine W B q.A4 q.N4 q.C4 m5) (fun _=>sta_and (sta_mine _ _ _ _ _) (sta_and (sta_mine _ _ _ _ _) (sta_and (sta_mine _ _ _ _ _) (sta_and (sta_mine _ _ _ _ _) (sta_mine _ _ _ _ _)))))
def ordR (x y:Rat):Int:=if x = y then 0 else if x < y then -1 else 1
theorem ordR_eq {x y:Rat} (h:x = y):ordR x y = 0:=by unfold ordR; rw [if_pos h]
def ptn (e:Int):Rat:=mkRat ((10 ^ e.toNat:Nat):Int) (10 ^ (-e).toNat)
theorem ten_ne (n:Nat):(10:Nat) ^ n≠0:=Nat.ne_of_gt (Nat.pow_pos (by decide))
theorem ptn_mul (x y:Int):ptn (x+y) = ptn x * ptn y:=by
 unfold ptn
 rw [Rat.mkRat_mul_mkRat,Rat.mkRat_eq_iff (ten_ne _) (Nat.mul_ne_zero (ten_ne _) (ten_ne _))]
 have e:10 ^ (x+y).toNat * (10 ^ (-x).toNat * 10 ^ (-y).toNat) = 10 ^ x.toNat * 10 ^ y.toNat * 10 ^ (-(x+y)).toNat:=by
  rw [← Nat.pow_add,← Nat.pow_add,← Nat.pow_add,← Nat.pow_add]
  congr 1; omega
 exact_mod_cast e
theorem ptn_pos (e:Int):0 < ptn e:=by
 unfold ptn
 rw [Rat.mkRat_eq_div,Rat.div_def]
 refine Rat.mul_pos ?_ ?_
 ·have:(0:Nat) < 10 ^ e.toNat:=Nat.pow_pos (by decide)
  exact_mod_cast this
 ·rw [Rat.inv_pos]
  have:(0:Nat) < 10 ^ (-e).toNat:=Nat.pow_pos (by decide)
  exact_mod_cast this
theorem ptn_nat (o:Nat):ptn (o:Int) = ((10 ^ o:Nat):Rat):=by
 unfold ptn
 rw [Int.toNat_natCast,show (-(o:Int)).toNat = 0 by omega,Nat.pow_zero,Rat.mkRat_eq_div]
 have h1:(1:Rat)⁻¹ = 1:=by have:=Rat.mul_inv_cancel (1:Rat) (by decide); rwa [Rat.one_mul] at this
 simp [Rat.div_def,h1]
def dq (g:Bool) (M:Nat) (x:Int):Rat:=((Rm.sgn g M:Int):Rat) * ptn x
theorem dq_up (g:Bool) (M:Nat) (x:Int) (o:Nat):dq g M (x+(o:Int)) = dq g (M * 10 ^ o) x:=by
 unfold dq
 rw [ptn_mul,ptn_nat,Rm.sgn_scale,Rat.intCast_mul,Rat.mul_assoc,Rat.mul_comm (ptn x),← Rat.mul_assoc]
 simp [Rat.mul_assoc]
theorem dq_zero (g:Bool) (x:Int):dq g 0 x = 0:=by
 unfold dq; rw [Rm.sgn_zero]; simp
theorem dvl_sgn (g:Bool) (A:Nat):dvl g A = Rm.sgn g A:=rfl
theorem dq_ord (g g2:Bool) (A B:Nat) (e:Int):ordR (dq g A e) (dq g2 B e) = cmpZ (dvl g A) (dvl g2 B):=by
 have h:dq g A e < dq g2 B e↔dvl g A < dvl g2 B:=by
  unfold dq
  rw [Rat.mul_lt_mul_right (ptn_pos e),Rat.intCast_lt_intCast]; exact Iff.rfl
 have h2:dq g A e = dq g2 B e↔dvl g A = dvl g2 B:=by
  constructor
  ·intro k
   have k1:¬ dvl g A < dvl g2 B:=fun q=>by have:=h.2 q; rw [k] at this; exact Rat.lt_irrefl this
   have k2:¬ dvl g2 B < dvl g A:=fun q=>by
    have:dq g2 B e < dq g A e:=by
     unfold dq
     rw [Rat.mul_lt_mul_right (ptn_pos e),Rat.intCast_lt_intCast]; exact q
    rw [k] at this; exact Rat.lt_irrefl this
   omega
  ·intro k
   unfold dq
   rw [dvl_sgn,dvl_sgn] at k
   rw [k]
 unfold ordR cmpZ
 by_cases k:dq g A e = dq g2 B e
 ·rw [if_pos k,h2.1 k,if_neg (by omega),if_neg (by omega)]
 ·rw [if_neg k]
  have k':¬ dvl g A = dvl g2 B:=fun q=>k (h2.2 q)
  by_cases q:dq g A e < dq g2 B e
  ·rw [if_pos q,if_pos (h.1 q)]
  ·have q':¬ dvl g A < dvl g2 B:=fun r=>q (h.2 r)
   rw [if_neg q,if_neg q',if_pos (by omega)]
theorem dq_mk (g:Bool) (M:Nat) (x:Int):dq g M x = mkRat (Rm.sgn g (M * 10 ^ x.toNat)) (10 ^ (-x).toNat):=by
 unfold dq ptn
 rw [Rat.mkRat_eq_div,Rat.mkRat_eq_div,Rm.sgn_scale,Rat.intCast_mul,Rat.div_def,Rat.div_def,Rat.mul_assoc]
theorem dx_empty {s:ByteArray} (h:s.size = 0):valS s = 0:=by
 have:digs s = []:=by
  have hl:(digs s).length = s.size:=by simp [digs]
  exact List.eq_nil_of_length_eq_zero (by omega)
 unfold valS
 rw [this]
 rfl
theorem dx_low {s:ByteArray} {x:Int} (h:DcOk s x) (h0:s.size≠0):10 ^ (s.size - 1)≤valS s∧valS s % 10≠0:=by
 have hl:(digs s).length = s.size:=by simp [digs]
 have hat:=h.ok.digS.2.2
 constructor
 ·have h0':0 < s.size:=by omega
  have hdl:=hat 0 h0'
  have hne:=h.fst h0'
  unfold valS
  match hds:digs s with
  | []=>rw [hds] at hl; simp at hl; omega
  | d :: r=>
   rw [hds] at hdl hl
   have hd0:d≠0:=fun e=>hne (by simpa [e] using hdl)
   have:=Pl.lead_low (d:=d) (ds:=r) hd0
   rw [show s.size - 1 = r.length by simp at hl; omega]
   exact this
 ·obtain ⟨k,hk⟩:∃ k,k+1 = s.size:=⟨s.size - 1,by omega⟩
  have e:=dval_snoc (digs s) k (by omega)
  rw [List.take_of_length_le (by omega)] at e
  have h1:=hat k (by omega)
  have h2:=h.lst k hk
  have h3:=h.ok.digS.2.1 ((digs s)[k]'(by omega)) (List.getElem_mem _)
  rw [List.getElem?_eq_getElem (by omega),Option.getD_some] at e h1
  unfold valS
  omega
theorem dx_ten (n:Nat):10 ^ n≤2 ^ (4 * n):=by
 rw [Nat.pow_mul]; exact Nat.pow_le_pow_left (by decide) n
theorem dx_made (g:Bool) (N:Nat) {x:Int} {n:Nat} (hN:N < 10 ^ n) (hn:n≤65000) (h0:-100000≤x) (h1:x≤100000):∃ (s3:ByteArray) (x3:Int),MkA g N x (.tuple #[.agg #[.bool g,.string s3,.int .i64 x3],.int .i64 0])∧DcOk s3 x3∧dq g (valS s3) x3 = dq g N x∧s3.size≤n∧x3.natAbs≤x.natAbs+n:=by
 have hT:N < tenTop 65536:=Nat.lt_of_lt_of_le hN (le_top (by omega))
 by_cases hz:N = 0
 ·have hE:MkA g N x (.tuple #[.agg #[.bool g,.string ⟨#[]⟩,.int .i64 0],.int .i64 0]):=Or.inl ⟨hz,rfl⟩
  refine ⟨⟨#[]⟩,0,hE,(mkA_num hE hT).2.1,?_,Nat.zero_le _,by omega⟩
  rw [dx_empty rfl,hz,dq_zero,dq_zero]
 ·obtain ⟨g4,s4,x4,e4,hE⟩:=mkA_ex g N x
  obtain ⟨s3,z,hV,hok,hval⟩:=mkA_near hE hz hT (by omega) (by omega)
  rw [hV] at hE
  have hne:s3.size≠0:=fun e=>hz (by rw [← hval,dx_empty e,Nat.zero_mul])
  obtain ⟨a,_⟩:=dx_low hok hne
  have b:10 ^ (s3.size - 1) * 10 ^ z < 10 ^ n:=Nat.lt_of_le_of_lt (by rw [← hval]; exact Nat.mul_le_mul_right _ a) hN
  rw [← Nat.pow_add] at b
  have:=(Nat.pow_lt_pow_iff_right (by decide)).1 b
  refine ⟨s3,_,hE,hok,?_,by omega,by omega⟩
  rw [dq_up,hval]
end Go.Proofs.YtplihgoapiiigaaGreatDoor
