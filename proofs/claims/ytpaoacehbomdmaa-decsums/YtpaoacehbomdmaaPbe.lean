/- Of what DecSumsRow stands on: DcCmp. -/
import Derived.Test.YtpaoacehbomdmaaPbd
import Derived.Test.YtpaoacehbomdmaaPaz
namespace Go.Proofs.Ytpaoacehbomdmaa
open Go.RowKit
set_option maxHeartbeats 1000000
theorem cmpZ_any (x y:Int) (w:World) :
  Calls Try.prog 45 #[.int .i64 x,.int .i64 y] w fun e w'=>e = .returned (.int .i64 (cmpZ x y))∧Below w.heap.size w w':=by
 unfold cmpZ
 by_cases h1:x < y
 ·rw [if_pos h1]
  go_enter Try.func45,Try.ntmps45
  go_wp2
  go_ret
  exact ⟨rfl,Below.refl _ _⟩
 ·rw [if_neg h1]
  by_cases h2:y < x
  ·rw [if_pos h2]
   go_enter Try.func45,Try.ntmps45
   go_wp2
   go_ret
   exact ⟨rfl,Below.refl _ _⟩
  ·rw [if_neg h2]
   obtain rfl:x = y:=by omega
   go_enter Try.func45,Try.ntmps45
   go_wp2
   go_ret
   exact ⟨rfl,Below.refl _ _⟩
def dl (l:List UInt8) (k:Nat):Int:=match l[k]? with|some a=>(a.toNat:Int) - 48|none=>0
theorem dl_zero (a:UInt8) (l:List UInt8):dl (a :: l) 0 = (a.toNat:Int) - 48:=rfl
theorem dl_succ (a:UInt8) (l:List UInt8) (k:Nat):dl (a :: l) (k+1) = dl l k:=rfl
theorem dg_dl (s:ByteArray) (k:Nat):dg s k = dl s.data.toList k:=by
 unfold dg dl
 by_cases h:k < s.size
 ·rw [dif_pos h,List.getElem?_eq_getElem (by simpa using h)]
  rfl
 ·rw [dif_neg h,List.getElem?_eq_none (by simpa using Nat.le_of_not_lt h)]
def Cd (l:List UInt8):Prop:=(∀ a,a∈l→48≤a.toNat)∧∀ a,l.getLast? = some a→a.toNat≠48
theorem Cd.tail {a:UInt8} {l:List UInt8} (h:Cd (a :: l)):Cd l:=
 ⟨fun b hb=>h.1 b (List.mem_cons_of_mem _ hb),fun b hb=>h.2 b (by
  cases l with
  | nil=>cases hb
  | cons c l=>rw [List.getLast?_cons_cons]; exact hb)⟩
theorem Cd.ex:∀ {a:UInt8} {l:List UInt8},Cd (a :: l)→∃ k,(∀ j,j < k→dl (a :: l) j = 0)∧0 < dl (a :: l) k:=by
 intro a l
 induction l generalizing a with
 | nil=>intro h; exact ⟨0,fun j hj=>absurd hj (Nat.not_lt_zero _),by have:=h.1 a (by simp); have:=h.2 a rfl; rw [dl_zero]; omega⟩
 | cons b l ih=>
  intro h
  have h48:=h.1 a (by simp)
  by_cases h0:a.toNat = 48
  ·obtain ⟨k,h1,h2⟩:=ih h.tail
   refine ⟨k+1,fun j hj=>?_,by rw [dl_succ]; exact h2⟩
   cases j with
   | zero=>rw [dl_zero]; omega
   | succ j=>rw [dl_succ]; exact h1 j (by omega)
  ·exact ⟨0,fun j hj=>absurd hj (Nat.not_lt_zero _),by rw [dl_zero]; omega⟩
def cmpL (x y:List UInt8):Int:=if Op.bytesLess x y then -1 else if x == y then 0 else 1
def Fl3 (x y:List UInt8) (c:Int):Prop:=(c = 0∧∀ k,dl x k = dl y k)∨∃ k,(∀ j,j < k→dl x j = dl y j)∧((dl x k < dl y k∧c = -1)∨(dl y k < dl x k∧c = 1))
theorem fl3:∀ (x y:List UInt8),Cd x→Cd y→Fl3 x y (cmpL x y):=by
 intro x
 induction x with
 | nil=>
  intro y _ hy
  cases y with
  | nil=>exact Or.inl ⟨rfl,fun _=>rfl⟩
  | cons b y=>
   obtain ⟨k,h1,h2⟩:=hy.ex
   exact Or.inr ⟨k,fun j hj=>(h1 j hj).symm,Or.inl ⟨h2,rfl⟩⟩
 | cons a x ih=>
  intro y hx hy
  cases y with
  | nil=>
   obtain ⟨k,h1,h2⟩:=hx.ex
   exact Or.inr ⟨k,fun j hj=>h1 j hj,Or.inr ⟨h2,rfl⟩⟩
  | cons b y=>
   by_cases hlt:a.toNat < b.toNat
   ·refine Or.inr ⟨0,fun j hj=>absurd hj (Nat.not_lt_zero _),Or.inl ⟨by rw [dl_zero,dl_zero]; omega,?_⟩⟩
    have:a < b:=UInt8.lt_iff_toNat_lt.2 hlt
    simp [cmpL,Op.bytesLess,this]
   ·by_cases hgt:b.toNat < a.toNat
    ·refine Or.inr ⟨0,fun j hj=>absurd hj (Nat.not_lt_zero _),Or.inr ⟨by rw [dl_zero,dl_zero]; omega,?_⟩⟩
     have h1:¬ a < b:=fun h=>hlt (UInt8.lt_iff_toNat_lt.1 h)
     have h2:¬ a = b:=fun h=>by rw [h] at hgt; omega
     simp [cmpL,Op.bytesLess,h1,h2]
    ·obtain rfl:a = b:=UInt8.toNat_inj.1 (by omega)
     have h1:¬ a < a:=fun h=>hlt (UInt8.lt_iff_toNat_lt.1 h)
     have he:cmpL (a :: x) (a :: y) = cmpL x y:=by simp [cmpL,Op.bytesLess,h1]
     rw [he]
     rcases ih y hx.tail hy.tail with ⟨h2,h3⟩|⟨k,h2,h3⟩
     ·refine Or.inl ⟨h2,fun k=>?_⟩
      cases k with
      | zero=>rfl
      | succ k=>exact h3 k
     ·refine Or.inr ⟨k+1,fun j hj=>?_,h3⟩
      cases j with
      | zero=>rfl
      | succ j=>exact h2 j (by omega)
theorem cd_of {s:ByteArray} (hd:AllD s s.size) (hl:∀ k,(h:k+1 = s.size)→(s[k]'(by omega)).toNat≠48):Cd s.data.toList:=by
 constructor
 ·intro a ha
  obtain ⟨k,hk,rfl⟩:=List.getElem_of_mem ha
  exact (hd k (by simpa using hk) (by simpa using hk)).1
 ·intro a ha
  rw [List.getLast?_eq_getElem?] at ha
  have hn:0 < s.size:=by
   by_cases h0:0 < s.size
   ·exact h0
   ·have h1:s.data.toList.length = s.size:=Array.length_toList
    rw [List.getElem?_eq_none (by omega)] at ha
    cases ha
  have hlen:s.data.toList.length = s.size:=Array.length_toList
  rw [List.getElem?_eq_getElem (by omega)] at ha
  cases ha
  have:=hl (s.size - 1) (by omega)
  simp only [Array.length_toList,Array.getElem_toList]
  exact this
theorem fd_cmp {s s2:ByteArray} (h1:Cd s.data.toList) (h2:Cd s2.data.toList):Fd s s2 (cmpS s s2):=by
 have h:=fl3 _ _ h1 h2
 have e:cmpS s s2 = cmpL s.data.toList s2.data.toList:=by unfold cmpS cmpL; rw [ByteArray.toList_eq,ByteArray.toList_eq]
 rw [e]
 unfold Fd
 simp only [dg_dl]
 exact h
theorem two_both (g:Bool) (s:ByteArray) (x:Int) (g2:Bool) (s2:ByteArray) (x2:Int):∃ e:Int,(e≠0∨(e = 0∧(s.size≤65536∧AllD s s.size∧-1073741824≤x∧x≤1073741824∧(s.size = 0→x = 0)∧Cd s.data.toList)∧(s2.size≤65536∧AllD s2 s2.size∧-1073741824≤x2∧x2≤1073741824∧(s2.size = 0→x2 = 0)∧Cd s2.data.toList))) ∧
  (∀ W:World,Calls Try.prog 26 #[.agg #[.bool g,.string s,.int .i64 x],.agg #[.bool g2,.string s2,.int .i64 x2]] W fun en W'=>en = .returned (.int .i64 e)∧Below W.heap.size W W') ∧
  ∀ W:World,Calls Try.prog 47 #[.agg #[.bool g,.string s,.int .i64 x],.agg #[.bool g2,.string s2,.int .i64 x2]] W fun en W'=>en = .returned (.int .i64 e)∧Below W.heap.size W W':=by
 obtain ⟨e,h,h1,h2⟩:=check_full g s x
 rcases h with h|⟨rfl,a1,a2,a3,a4,a5,a6⟩
 ·exact ⟨e,Or.inl h,fun W=>chk2_e W g s x g2 s2 x2 e h (hide h1),fun W=>rtwo_e W g s x g2 s2 x2 e h (hide h2)⟩
 ·obtain ⟨e2,k,k1,k2⟩:=check_full g2 s2 x2
  refine ⟨e2,?_,fun W=>chk2_o W g s x g2 s2 x2 e2 (hide h1) (hide k1),fun W=>rtwo_o W g s x g2 s2 x2 e2 (hide h2) (hide k2)⟩
  rcases k with k|⟨rfl,b1,b2,b3,b4,b5,b6⟩
  ·exact Or.inl k
  ·exact Or.inr ⟨rfl,⟨a1,a2,a3,a4,a5,cd_of a2 a6⟩,b1,b2,b3,b4,b5,cd_of b2 b6⟩
theorem cmpS_in (s t:ByteArray):cmpS s t = -1∨cmpS s t = 0∨cmpS s t = 1:=by
 unfold cmpS
 split
 ·exact Or.inl rfl
 ·split
  ·exact Or.inr (Or.inl rfl)
  ·exact Or.inr (Or.inr rfl)
theorem sgD_in (g:Bool) (s:ByteArray):(sgD g s = 0∧s.size = 0)∨((sgD g s = -1∨sgD g s = 1)∧s.size≠0):=by
 unfold sgD
 by_cases h:s.size = 0
 ·exact Or.inl ⟨if_pos h,h⟩
 ·rw [if_neg h]
  cases g
  ·exact Or.inr ⟨Or.inr rfl,h⟩
  ·exact Or.inr ⟨Or.inl rfl,h⟩
theorem wrap_small {t c:Int} (h1:t = -1∨t = 0∨t = 1) (h2:c = -1∨c = 0∨c = 1):IntKind.wrap .i64 (t * c) = t * c:=by
 rcases h1 with rfl|rfl|rfl <;> rcases h2 with rfl|rfl|rfl <;> rfl
theorem cmp_both (g:Bool) (s:ByteArray) (x:Int) (g2:Bool) (s2:ByteArray) (x2:Int):∃ c e:Int,
  (∀ W:World,Calls Try.prog 18 #[.agg #[.bool g,.string s,.int .i64 x],.agg #[.bool g2,.string s2,.int .i64 x2]] W fun en W'=>en = .returned (.tuple #[.int .i64 c,.int .i64 e])∧Below W.heap.size W W') ∧
  ∀ W:World,Calls Try.prog 19 #[.agg #[.bool g,.string s,.int .i64 x],.agg #[.bool g2,.string s2,.int .i64 x2]] W fun en W'=>en = .returned (.tuple #[.int .i64 c,.int .i64 e])∧Below W.heap.size W W':=by
 obtain ⟨e,h,h1,h2⟩:=two_both g s x g2 s2 x2
 rcases h with h|⟨rfl,⟨a1,a2,a3,a4,a5,a6⟩,b1,b2,b3,b4,b5,b6⟩
 ·exact ⟨0,e,fun W=>dcmp_e W g s x g2 s2 x2 e h (hide h1),fun W=>rcmp_e W g s x g2 s2 x2 e h (hide h2)⟩
 have S1:=hide fun W=>sgn_any W g s x
 have S2:=hide fun W=>sgn_any W g2 s2 x2
 have R1:=hide fun W=>rsgn_any W g s x
 have R2:=hide fun W=>rsgn_any W g2 s2 x2
 by_cases hlt:sgD g s < sgD g2 s2
 ·refine ⟨-1,0,fun W=>dcmp_ne W g s x g2 s2 x2 _ _ _ (by omega) (hide h1) S1 S2 (hide fun W=>?_),fun W=>rcmp_lt W g s x g2 s2 x2 _ _ hlt (hide h2) R1 R2⟩
  have h:=cmpZ_any (sgD g s) (sgD g2 s2) W
  rw [cmpZ,if_pos hlt] at h
  exact h
 by_cases hgt:sgD g2 s2 < sgD g s
 ·refine ⟨1,0,fun W=>dcmp_ne W g s x g2 s2 x2 _ _ _ (by omega) (hide h1) S1 S2 (hide fun W=>?_),fun W=>rcmp_gt W g s x g2 s2 x2 _ _ hgt (hide h2) R1 R2⟩
  have h:=cmpZ_any (sgD g s) (sgD g2 s2) W
  rw [cmpZ,if_neg hlt,if_pos hgt] at h
  exact h
 have he:sgD g s = sgD g2 s2:=by omega
 have hf:∃ c:Int,(c = -1∨c = 0∨c = 1)∧(∀ W:World,Calls Try.prog 46 #[.agg #[.bool g,.string s,.int .i64 x],.agg #[.bool g2,.string s2,.int .i64 x2]] W fun en W'=>en = .returned (.int .i64 c)∧Below W.heap.size W W') ∧
   ∀ W:World,Calls Try.prog 49 #[.agg #[.bool g,.string s,.int .i64 x],.agg #[.bool g2,.string s2,.int .i64 x2]] W fun en W'=>en = .returned (.int .i64 c)∧Below W.heap.size W W':=by
  by_cases k1:x+(s.size:Int) < x2+(s2.size:Int)
  ·refine ⟨-1,Or.inl rfl,fun W=>far_ne W g s x g2 s2 x2 _ a1 b1 a3 a4 b3 b4 (by decide) (hide fun W=>?_),fun W=>big_lt g s x g2 s2 x2 a1 b1 a3 a4 b3 b4 k1 W⟩
   have h:=cmpZ_any (x+(s.size:Int)) (x2+(s2.size:Int)) W
   rw [cmpZ,if_pos k1] at h
   exact h
  by_cases k2:x2+(s2.size:Int) < x+(s.size:Int)
  ·refine ⟨1,Or.inr (Or.inr rfl),fun W=>far_ne W g s x g2 s2 x2 _ a1 b1 a3 a4 b3 b4 (by decide) (hide fun W=>?_),fun W=>big_gt g s x g2 s2 x2 a1 b1 a3 a4 b3 b4 k2 W⟩
   have h:=cmpZ_any (x+(s.size:Int)) (x2+(s2.size:Int)) W
   rw [cmpZ,if_neg k1,if_pos k2] at h
   exact h
  ·refine ⟨cmpS s s2,cmpS_in s s2,fun W=>far_eq W g s x g2 s2 x2 _ a1 b1 a3 a4 b3 b4 (hide fun W=>?_) (hide fun W=>below_of (cmpS_any s s2 W)),fun W=>big_eq g s x g2 s2 x2 a1 b1 a3 a4 b3 b4 (hide (by omega)) a2 b2 _ (hide (fd_cmp a6 b6)) W⟩
   have h:=cmpZ_any (x+(s.size:Int)) (x2+(s2.size:Int)) W
   rw [cmpZ,if_neg k1,if_neg k2] at h
   exact h
 obtain ⟨c,hc,hf1,hf2⟩:=hf
 have ht:sgD g s = -1∨sgD g s = 0∨sgD g s = 1:=by have:=sgD_in g s; omega
 refine ⟨sgD g s * c,0,fun W=>dcmp_eq W g s x g2 s2 x2 _ _ c _ he (wrap_small ht hc) (hide h1) S1 S2 (hide hf1),fun W=>?_⟩
 by_cases h0:sgD g s = 0
 ·rw [h0,Int.zero_mul]
  exact rcmp_z W g s x g2 s2 x2 _ _ he h0 (hide h2) R1 R2
 ·exact rcmp_eq W g s x g2 s2 x2 _ _ c _ he h0 (wrap_small ht hc) (hide h2) R1 R2 (hide hf2)
end Go.Proofs.Ytpaoacehbomdmaa
