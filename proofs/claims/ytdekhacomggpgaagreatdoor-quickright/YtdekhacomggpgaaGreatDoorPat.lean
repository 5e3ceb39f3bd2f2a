/- Of what QuickRightRow stands on: DcCan DcCutW DcNum. -/
import Derived.Test.YtdekhacomggpgaaGreatDoorPao
import Derived.Test.YtdekhacomggpgaaGreatDoorPan
import Derived.Test.YtdekhacomggpgaaGreatDoorPas
namespace Go.Proofs.YtdekhacomggpgaaGreatDoor
open Go.RowKit
def valS (u:ByteArray):Nat:=Pl.dval (digs u) 0
theorem dval_zero_of {ds:List Nat} (h:∀ j,j < ds.length→ds[j]?.getD 0 = 0):Pl.dval ds 0 = 0:=by
 have:=dval_zeros ds ds.length (Nat.le_refl _) h
 rw [List.drop_length] at this
 rw [← this]; rfl
theorem val_none {u:ByteArray} (hz:∀ (j:Nat) (hj:j < u.size),(u[j]'hj).toNat = 48):valS u = 0:=by
 refine dval_zero_of fun j hj=>?_
 have hl:(digs u).length = u.size:=by simp [digs]
 have hj':j < u.size:=by omega
 have hk2:j < u.data.toList.length:=by simpa using hj'
 simp only [digs,List.getElem?_map,List.getElem?_eq_getElem hk2]
 have e1:(u.data.toList[j]'hk2).toNat = (u[j]'hj').toNat:=by rw [Array.getElem_toList]; rfl
 have:=hz j hj'
 simp only [Option.map_some,Option.getD_some]
 omega
theorem tens_uniq {n z n' z':Nat} (h:n * 10 ^ z = n' * 10 ^ z') (h1:n % 10≠0) (h2:n' % 10≠0):n = n'∧z = z':=by
 have key:∀ {n z n' z':Nat},n * 10 ^ z = n' * 10 ^ z'→n % 10≠0→z≤z'→z = z':=fun {n z n' z'} h h1 hle=>by
  obtain ⟨k,rfl⟩:∃ k,z' = z+k:=⟨z' - z,by omega⟩
  rcases Nat.eq_zero_or_pos k with rfl|hk
  ·rfl
  ·obtain ⟨j,rfl⟩:∃ j,k = j+1:=⟨k - 1,by omega⟩
   have e:n' * 10 ^ (z+(j+1)) = n' * 10 ^ j * 10 * 10 ^ z:=by rw [Nat.pow_add,Nat.pow_succ]; ac_rfl
   rw [e] at h
   have:=Nat.eq_of_mul_eq_mul_right (Nat.pow_pos (by omega)) h
   omega
 have hz:z = z':=by
  rcases Nat.le_total z z' with q|q
  ·exact key h h1 q
  ·exact (key h.symm h2 q).symm
 subst hz
 exact ⟨Nat.eq_of_mul_eq_mul_right (Nat.pow_pos (by omega)) h,rfl⟩
def MkA (g:Bool) (N:Nat) (x:Int) (V:Value):Prop:=
 (N = 0∧V = .tuple #[.agg #[.bool g,.string ⟨#[]⟩,.int .i64 0],.int .i64 0]) ∨
 ∃ (t:ByteArray) (n z:Nat),N = n * 10 ^ z∧n % 10≠0∧Says t n ∧
  ((x+(z:Int) < -1073741824∨1073741824 < x+(z:Int))∧V = .tuple #[.agg #[.bool false,.string ⟨#[]⟩,.int .i64 0],.int .i64 4] ∨
   ¬ (x+(z:Int) < -1073741824∨1073741824 < x+(z:Int))∧V = .tuple #[.agg #[.bool g,.string t,.int .i64 (x+(z:Int))],.int .i64 0])
theorem MkA.uniq {g:Bool} {N:Nat} {x:Int} {V V':Value} (h:MkA g N x V) (h':MkA g N x V'):V = V':=by
 have pos:∀ {n z:Nat},n % 10≠0→n * 10 ^ z≠0:=fun {n z} h1 h2=>by
  have:=Nat.mul_pos (show 0 < n by omega) (Nat.pow_pos (n:=z) (show 0 < 10 by omega))
  omega
 rcases h with ⟨h0,rfl⟩|⟨t,n,z,hN,hn,hs,h⟩
 ·rcases h' with ⟨_,rfl⟩|⟨t',n',z',hN',hn',_,_⟩
  ·rfl
  ·exact absurd (hN'.symm.trans h0) (pos hn')
 ·rcases h' with ⟨h0,_⟩|⟨t',n',z',hN',hn',hs',h'⟩
  ·exact absurd (hN.symm.trans h0) (pos hn)
  ·obtain ⟨rfl,rfl⟩:=tens_uniq (hN.symm.trans hN') hn hn'
   obtain rfl:=says_eq hs hs'
   rcases h with ⟨a,rfl⟩|⟨a,rfl⟩ <;> rcases h' with ⟨b,rfl⟩|⟨b,rfl⟩
   ·rfl
   ·exact absurd a b
   ·exact absurd b a
   ·rfl
end Go.Proofs.YtdekhacomggpgaaGreatDoor
