/- Of what NearMeetsRow stands on: ExLimit ExSum NrSum NrRun NrMid NrFin RcE NrUlp. -/
import Derived.Test.YtaidedkpfnidpaaGreatDoorPaw
import Derived.Test.YtaidedkpfnidpaaGreatDoorPax
import Derived.Test.YtaidedkpfnidpaaGreatDoorPab
import Derived.Test.YtaidedkpfnidpaaGreatDoorPav
import Derived.Test.YtaidedkpfnidpaaGreatDoorPat
namespace Go.Proofs.YtaidedkpfnidpaaGreatDoor
open Go.RowKit
set_option maxHeartbeats 4000000
set_option maxRecDepth 20000
theorem dmul_over (a a':Option Addr) (n n' cap cap' m m':Nat) (w:World) (h:Num w a n m) (h':Num w a' n' m') (ho:Over (m * m')) :
  Calls Tryz.prog 118 #[.agg #[.slice a n cap],.agg #[.slice a' n' cap']] w fun e w'=>e = .returned (.tuple #[.agg #[.slice none 0 0],.int .i64 4])∧Below w.heap.size w w':=by
 refine (mul_any a a' n n' cap cap' m m' w h h').mono ?_
 rintro e w' ⟨⟨_,_,_,_,h1⟩|h1,hb⟩
 ·exact absurd h1.num.lt (Nat.not_lt.2 ho.le)
 ·exact ⟨h1.1,hb⟩
theorem Mul_over (s:Bool) (a:Option Addr) (n cap m:Nat) (x:Int) (s':Bool) (a':Option Addr) (n' cap' m':Nat) (x':Int) (w:World) (h:Dy w s a n m x) (h':Dy w s' a' n' m' x') (hn:0 < n) (hn':0 < n') (hx:-1073741824≤x+x'∧x+x'≤1073741824) (ho:Over (m * m')) :
  Calls Tryz.prog 133 #[.agg #[.bool s,.slice a n cap,.int .i64 x],.agg #[.bool s',.slice a' n' cap',.int .i64 x']] w fun e w'=>e = .returned (.tuple #[.agg #[.bool false,.slice none 0 0,.int .i64 0],.int .i64 4])∧Below w.heap.size w w':=by
 have H:=hide h
 have H':=hide h'
 have HO:=hide ho
 have hxr:=h.range
 have hxr':=h'.range
 clear h h' ho
 go_enter Tryz.func133,Tryz.ntmps133
 go_wp2_with fail
 refine (checkBoth_dy s a n cap m x s' a' n' cap' m' x' _ ((unhide H).kept (gr_trans (gr_trans (gr_alloc _ _) (gr_alloc _ _)) (gr_alloc _ _))) ((unhide H').kept (gr_trans (gr_trans (gr_alloc _ _) (gr_alloc _ _)) (gr_alloc _ _)))).mono ?_
 rintro e w1 ⟨rfl,hb1⟩
 have hS:=(Fs.three w _ _ _ _ _ _).kept hb1
 obtain ⟨⟨ya,yb,yc,-⟩,⟨yd,ye,yf,-⟩,⟨yg,yh,yi,-⟩,-⟩:=hS.cells
 go_wp2_with fail
 refine (isNought_no a n cap hn _).mono ?_
 rintro e w2 ⟨rfl,hb2⟩
 replace hS:=hS.kept hb2
 clear ya yb yc yd ye yf yg yh yi
 obtain ⟨⟨yj,yk,yl,-⟩,⟨ym,yn,yo,-⟩,⟨yp,yq,yr,-⟩,-⟩:=hS.cells
 go_wp2_with fail
 refine (isNought_no a' n' cap' hn' _).mono ?_
 rintro e w3 ⟨rfl,hb3⟩
 replace hS:=hS.kept hb3
 clear yj yk yl ym yn yo yp yq yr
 obtain ⟨⟨ys,yt,yu,-⟩,⟨yv,yw,yx,-⟩,⟨yy,yz,y0,-⟩,-⟩:=hS.cells
 go_wp2_with fail
 refine (beyond_no _ hx _).mono ?_
 rintro e w4 ⟨rfl,hb4⟩
 replace hS:=hS.kept hb4
 clear ys yt yu yv yw yx yy yz y0
 obtain ⟨⟨y1,y2,y3,-⟩,⟨y4,y5,y6,-⟩,⟨y7,y8,y9,-⟩,-⟩:=hS.cells
 go_wp2_with fail
 refine (dmul_over a a' n n' cap cap' m m' _ ((unhide H).kept hS.fr).num ((unhide H').kept hS.fr).num (unhide HO)).mono ?_
 rintro e w5 ⟨rfl,hb5⟩
 replace hS:=hS.kept hb5
 clear y1 y2 y3 y4 y5 y6 y7 y8 y9
 obtain ⟨⟨yba,ybb,ybc,-⟩,⟨ybd,ybe,ybf,-⟩,⟨ybg,ybh,ybi,-⟩,-⟩:=hS.cells
 have hltw5_0:w.heap.size < w5.heap.size:=hS.lt 0 rfl
 have hltw5_1:w.heap.size+1 < w5.heap.size:=hS.lt 1 rfl
 have hltw5_2:w.heap.size+2 < w5.heap.size:=hS.lt 2 rfl
 have Q_:=hS.frozen (b:=w.heap.size+2) (cs:=#[.bool false,.slice none 0 0,.int .i64 0]) (t:=58) (by simp)
 have fz0:=Q_ 0
 have fz1:=Q_ 1
 have fz2:=Q_ 2
 clear Q_
 go_wp2
 have hB:=fun u0 u1 u2=>((hS.fr.setCell (p:=⟨w.heap.size+2,0,none⟩) (by simp <;> omega) u0).setCell (p:=⟨w.heap.size+2,1,none⟩) (by simp <;> omega) u1).setCell (p:=⟨w.heap.size+2,2,none⟩) (by simp <;> omega) u2
 exact bodyPost_ret (v:=.tuple #[.agg #[.bool false,.slice none 0 0,.int .i64 0],.int .i64 4]) (by simp [results,Tryz.results133,go_sem,ybg,ybh,ybi,hltw5_2]) rfl ⟨rfl,(hB _ _ _).alloc (hB _ _ _).size _⟩
def OkD (s:Bool) (m:Nat) (x:Int):Prop:=(m = 0∧s = false∧x = 0)∨(m % 2 = 1∧-1073741824≤x∧x≤1073741824)
theorem sv_zero (s:Bool):sv s 0 = 0:=by unfold sv; cases s <;> rfl
theorem mine_none (w:World) (base:Nat):Mine w base none 0 0 0:=⟨[],rfl,Or.inl ⟨rfl,rfl⟩,Pl.wf_nil,Pl.norm_nil,rfl,by omega⟩
def SumsM (s:Bool) (m:Nat) (x:Int) (s':Bool) (m':Nat) (x':Int) (er:Int) (r:Bool) (v:Nat) (y:Int):Prop:=
 ∀ (W:World) (A:Option Addr) (N C:Nat) (A':Option Addr) (N' C':Nat),Num W A N m→Num W A' N' m'→Tb W →
  Calls Tryz.prog 134 #[.agg #[.bool s,.slice A N C,.int .i64 x],.agg #[.bool s',.slice A' N' C',.int .i64 x']] W fun e w'=>(∃ A N C,e = .returned (.tuple #[.agg #[.bool r,.slice A N C,.int .i64 y],.int .i64 er])∧Mine w' W.heap.size A N C v)∧Below W.heap.size W w'
theorem SumsM.many {s:Bool} {m:Nat} {x:Int} {s':Bool} {m':Nat} {x':Int} (h:∀ (W:World) (A:Option Addr) (N C:Nat) (A':Option Addr) (N' C':Nat),Num W A N m→Num W A' N' m'→Tb W →
  Calls Tryz.prog 134 #[.agg #[.bool s,.slice A N C,.int .i64 x],.agg #[.bool s',.slice A' N' C',.int .i64 x']] W fun e w'=>e = .returned (.tuple #[.agg #[.bool false,.slice none 0 0,.int .i64 0],.int .i64 4])∧Below W.heap.size W w'):SumsM s m x s' m' x' 4 false 0 0:=fun W A N C A' N' C' g g' hT=>by
 refine (h W A N C A' N' C' g g' hT).mono ?_
 rintro e w' ⟨rfl,hb⟩
 exact ⟨⟨none,0,0,rfl,mine_none _ _⟩,hb⟩
theorem SumsM.of {s:Bool} {m:Nat} {x:Int} {s':Bool} {m':Nat} {x' t:Int} {i j v:Nat} {r:Bool} (hm:m % 2 = 1∧-1073741824≤x∧x≤1073741824) (hm':m' % 2 = 1∧-1073741824≤x'∧x'≤1073741824) (ht:min x x' = t) (hi:x - t = (i:Int)) (hj:x' - t = (j:Int)) (hno:¬ Over (m * 2 ^ i)) (hno':¬ Over (m' * 2 ^ j))
  (hS:∀ (W:World) (A:Option Addr) (N C:Nat) (A':Option Addr) (N' C':Nat),Num W A N (m * 2 ^ i)→Num W A' N' (m' * 2 ^ j)→Calls Tryz.prog 162 #[.bool s,.agg #[.slice A N C],.bool s',.agg #[.slice A' N' C']] W fun e w'=>(∃ A N C,e = .returned (.tuple #[.bool r,.agg #[.slice A N C],.int .i64 0])∧Mine w' W.heap.size A N C v)∧Below W.heap.size W w') (hv:v < 4294967296 ^ Pl.top) :
  (v = 0∧SumsM s m x s' m' x' 0 false 0 0)∨∃ z,0 < v∧Tz v z∧z < 524288∧((-1073741824≤t+z∧t+z≤1073741824∧SumsM s m x s' m' x' 0 r (v / 2 ^ z) (t+(z:Int)))∨((1073741824 < t+z∨t+z < -1073741824)∧SumsM s m x s' m' x' 4 false 0 0)):=by
 have hp:∀ {W:World} {A:Option Addr} {N:Nat},Num W A N m→0 < N:=fun g=>by have:=g.zero; omega
 have hp':∀ {W:World} {A:Option Addr} {N:Nat},Num W A N m'→0 < N:=fun g=>by have:=g.zero; omega
 rcases Nat.eq_zero_or_pos v with h0|h0
 ·subst h0
  refine Or.inl ⟨rfl,fun W A N C A' N' C' g g' _=>?_⟩
  refine (Add_zero s A N C m x s' A' N' C' m' x' t i j r W ⟨g,Or.inr hm⟩ ⟨g',Or.inr hm'⟩ (hp g) (hp' g') ht hi hj (by omega) (by omega) hno hno' (hide hS)).mono ?_
  rintro e w' ⟨rfl,hb⟩
  exact ⟨⟨none,0,0,rfl,mine_none _ _⟩,hb⟩
 ·have h2:4294967296 ^ Pl.top = 2 ^ (32 * Pl.top):=by rw [Nat.pow_mul]
  rw [h2] at hv
  obtain ⟨z,hz,hz2⟩:=tz_ex h0 hv
  have hz3:z < 524288:=by have:=Pl.top_eq; omega
  refine Or.inr ⟨z,h0,hz,hz3,?_⟩
  by_cases hx:-1073741824≤t+z∧t+z≤1073741824
  ·refine Or.inl ⟨hx.1,hx.2,fun W A N C A' N' C' g g' hT=>?_⟩
   refine (Add_num s A N C m x s' A' N' C' m' x' t i j v z r W ⟨g,Or.inr hm⟩ ⟨g',Or.inr hm'⟩ (hp g) (hp' g') hT ht hi hj (by omega) (by omega) hno hno' h0 hz hz3 hx (hide hS)).mono ?_
   rintro e w' ⟨⟨A,N,C,rfl,h1⟩,hb⟩
   exact ⟨⟨A,N,C,rfl,h1⟩,hb⟩
  ·refine Or.inr ⟨by omega,SumsM.many fun W A N C A' N' C' g g' hT=>?_⟩
   by_cases hx1:1073741824 < t+z
   ·exact Add_above s A N C m x s' A' N' C' m' x' t i j v z r W ⟨g,Or.inr hm⟩ ⟨g',Or.inr hm'⟩ (hp g) (hp' g') ht hi hj (by omega) (by omega) hno hno' hT h0 hz hz3 hx1 (hide hS)
   ·exact Add_below s A N C m x s' A' N' C' m' x' t i j v z r W ⟨g,Or.inr hm⟩ ⟨g',Or.inr hm'⟩ (hp g) (hp' g') ht hi hj (by omega) (by omega) hno hno' hT h0 hz hz3 (by omega) (hide hS)
def ProdsM (s:Bool) (m:Nat) (x:Int) (s':Bool) (m':Nat) (x':Int) (er:Int) (r:Bool) (v:Nat) (y:Int):Prop:=
 ∀ (W:World) (A:Option Addr) (N C:Nat) (A':Option Addr) (N' C':Nat),Num W A N m→Num W A' N' m' →
  Calls Tryz.prog 133 #[.agg #[.bool s,.slice A N C,.int .i64 x],.agg #[.bool s',.slice A' N' C',.int .i64 x']] W fun e w'=>(∃ A N C,e = .returned (.tuple #[.agg #[.bool r,.slice A N C,.int .i64 y],.int .i64 er])∧Mine w' W.heap.size A N C v)∧Below W.heap.size W w'
theorem ProdsM.plain {s:Bool} {m:Nat} {x:Int} {s':Bool} {m':Nat} {x' er:Int} (h:∀ (W:World) (A:Option Addr) (N C:Nat) (A':Option Addr) (N' C':Nat),Num W A N m→Num W A' N' m' →
  Calls Tryz.prog 133 #[.agg #[.bool s,.slice A N C,.int .i64 x],.agg #[.bool s',.slice A' N' C',.int .i64 x']] W fun e w'=>e = .returned (.tuple #[.agg #[.bool false,.slice none 0 0,.int .i64 0],.int .i64 er])∧Below W.heap.size W w'):ProdsM s m x s' m' x' er false 0 0:=fun W A N C A' N' C' g g'=>by
 refine (h W A N C A' N' C' g g').mono ?_
 rintro e w' ⟨rfl,hb⟩
 exact ⟨⟨none,0,0,rfl,mine_none _ _⟩,hb⟩
theorem mul_oneM {s:Bool} {m:Nat} {x:Int} {s':Bool} {m':Nat} {x':Int} (hA:OkD s m x) (hB:OkD s' m' x') :
  ((m = 0∨m' = 0)∧ProdsM s m x s' m' x' 0 false 0 0)∨((0 < m∧0 < m')∧(((x+x' < -1073741824∨1073741824 < x+x'∨Over (m * m'))∧ProdsM s m x s' m' x' 4 false 0 0)∨(¬ (x+x' < -1073741824∨1073741824 < x+x'∨Over (m * m'))∧ProdsM s m x s' m' x' 0 (s != s') (m * m') (x+x')))):=by
 have hp:∀ {W:World} {A:Option Addr} {N m:Nat},Num W A N m→0 < m→0 < N:=fun g h=>by have:=g.zero; omega
 rcases Nat.eq_zero_or_pos m with h0|h0
 ·refine Or.inl ⟨Or.inl h0,ProdsM.plain fun W A N C A' N' C' g g'=>?_⟩
  obtain rfl:=g.zero.2 h0
  exact Mul_left s A C m x s' A' N' C' m' x' W ⟨g,hA⟩ ⟨g',hB⟩
 rcases Nat.eq_zero_or_pos m' with h1|h1
 ·refine Or.inl ⟨Or.inr h1,ProdsM.plain fun W A N C A' N' C' g g'=>?_⟩
  obtain rfl:=g'.zero.2 h1
  exact Mul_right s A N C m x s' A' C' m' x' W ⟨g,hA⟩ ⟨g',hB⟩ (hp g h0)
 refine Or.inr ⟨⟨h0,h1⟩,?_⟩
 by_cases hc:x+x' < -1073741824∨1073741824 < x+x'∨Over (m * m')
 ·refine Or.inl ⟨hc,ProdsM.plain fun W A N C A' N' C' g g'=>?_⟩
  by_cases c1:x+x' < -1073741824
  ·exact Mul_below s A N C m x s' A' N' C' m' x' W ⟨g,hA⟩ ⟨g',hB⟩ (hp g h0) (hp g' h1) c1
  by_cases c2:1073741824 < x+x'
  ·exact Mul_above s A N C m x s' A' N' C' m' x' W ⟨g,hA⟩ ⟨g',hB⟩ (hp g h0) (hp g' h1) c2
  ·exact Mul_over s A N C m x s' A' N' C' m' x' W ⟨g,hA⟩ ⟨g',hB⟩ (hp g h0) (hp g' h1) (by omega) (by
    rcases hc with h|h|h
    ·exact absurd h c1
    ·exact absurd h c2
    ·exact h)
 ·refine Or.inr ⟨hc,fun W A N C A' N' C' g g'=>?_⟩
  refine (Mul_ok s A N C m x s' A' N' C' m' x' W ⟨g,hA⟩ ⟨g',hB⟩ (hp g h0) (hp g' h1) (by omega) (fun h=>hc (Or.inr (Or.inr h)))).mono ?_
  rintro e w' ⟨⟨A,N,C,rfl,h2⟩,hb⟩
  exact ⟨⟨A,N,C,rfl,h2⟩,hb⟩
theorem lt_of_pow2M {v d K z:Nat} (h:2 ^ z≤v) (hv:v * 2 ^ d < 2 ^ K):z+d < K:=by
 have h1:2 ^ (z+d) < 2 ^ K:=by
  rw [Nat.pow_add]
  exact Nat.lt_of_le_of_lt (Nat.mul_le_mul_right _ h) hv
 exact (Nat.pow_lt_pow_iff_right (by decide)).1 h1
theorem Tz.leM {v z:Nat} (h:Tz v z):2 ^ z≤v:=by
 obtain ⟨q,rfl⟩:=h
 exact Nat.le_mul_of_pos_right _ (by omega)
theorem sv_leM {s s' r:Bool} {a b v:Nat} (h:sv r v = sv s a+sv s' b):v≤a+b:=by
 unfold sv at h
 cases s <;> cases s' <;> cases r <;> simp at h <;> omega
theorem add_in0M {s:Bool} {m:Nat} {x:Int} {s':Bool} {m':Nat} {x' t L:Int} {i j d v K:Nat} {r:Bool} (hm:m % 2 = 1∧-1073741824≤x∧x≤1073741824) (hm':m' % 2 = 1∧-1073741824≤x'∧x'≤1073741824) (ht:min x x' = t) (hi:x - t = (i:Int)) (hj:x' - t = (j:Int)) (hd:t - L = (d:Int)) (hL:-1073741824≤L) (hL0:L≤0) (hK:K≤500000) (hk:m * 2 ^ (x - L).toNat < 2 ^ K) (hk':m' * 2 ^ (x' - L).toNat < 2 ^ K)
  (hS:∀ (W:World) (A:Option Addr) (N C:Nat) (A':Option Addr) (N' C':Nat),Num W A N (m * 2 ^ i)→Num W A' N' (m' * 2 ^ j)→Calls Tryz.prog 162 #[.bool s,.agg #[.slice A N C],.bool s',.agg #[.slice A' N' C']] W fun e w'=>(∃ A N C,e = .returned (.tuple #[.bool r,.agg #[.slice A N C],.int .i64 0])∧Mine w' W.heap.size A N C v)∧Below W.heap.size W w') (hw:sv r v = sv s (m * 2 ^ i)+sv s' (m' * 2 ^ j)) :
  ∃ q v y,SumsM s m x s' m' x' 0 q v y∧OkD q v y∧L≤y∧v * 2 ^ (y - L).toNat < 2 ^ (K+1)∧sv q (v * 2 ^ (y - L).toNat) = sv s (m * 2 ^ (x - L).toNat)+sv s' (m' * 2 ^ (x' - L).toNat):=by
 have e1:(x - L).toNat = i+d:=by omega
 have e2:(x' - L).toNat = j+d:=by omega
 rw [e1,Nat.pow_add,← Nat.mul_assoc] at hk
 rw [e2,Nat.pow_add,← Nat.mul_assoc] at hk'
 have hd1:1≤2 ^ d:=pow_pos2 d
 have ha:m * 2 ^ i < 2 ^ K:=Nat.lt_of_le_of_lt (Nat.le_mul_of_pos_right _ hd1) hk
 have hb:m' * 2 ^ j < 2 ^ K:=Nat.lt_of_le_of_lt (Nat.le_mul_of_pos_right _ hd1) hk'
 have hle:=sv_leM hw
 have hvd:v * 2 ^ d < 2 ^ (K+1):=by
  have h1:v * 2 ^ d≤(m * 2 ^ i+m' * 2 ^ j) * 2 ^ d:=Nat.mul_le_mul_right _ hle
  rw [Nat.add_mul] at h1
  rw [Nat.pow_succ]
  omega
 have hv:v < 2 ^ (K+1):=Nat.lt_of_le_of_lt (Nat.le_mul_of_pos_right _ hd1) hvd
 have hvt:v < 4294967296 ^ Pl.top:=Nat.lt_of_not_le fun hle=>not_over hv (by omega) ⟨hle⟩
 have hsum:sv s (m * 2 ^ (x - L).toNat)+sv s' (m' * 2 ^ (x' - L).toNat) = sv r (v * 2 ^ d):=by
  rw [e1,e2,Nat.pow_add,Nat.pow_add,← Nat.mul_assoc,← Nat.mul_assoc,← sv_mul s (m * 2 ^ i),← sv_mul s' (m' * 2 ^ j),← sv_mul r v,← Int.add_mul,← hw]
 rcases SumsM.of hm hm' ht hi hj (not_over ha (by omega)) (not_over hb (by omega)) hS hvt with ⟨h0,P⟩|⟨z,h0,hz,hz2,⟨p1,p2,P⟩|⟨p1,P⟩⟩
 ·refine ⟨false,0,0,P,Or.inl ⟨rfl,rfl,rfl⟩,hL0,by rw [Nat.zero_mul]; exact pow_pos2 _,?_⟩
  rw [hsum,h0,Nat.zero_mul,Nat.zero_mul,sv_zero,sv_zero]
 ·have e3:(t+(z:Int) - L).toNat = z+d:=by omega
  have e4:v / 2 ^ z * 2 ^ (z+d) = v * 2 ^ d:=by rw [Nat.pow_add,← Nat.mul_assoc,hz.down.2]
  refine ⟨r,v / 2 ^ z,t+(z:Int),P,Or.inr ⟨hz.down.1,p1,p2⟩,by omega,?_,?_⟩
  ·rw [e3,e4]; exact hvd
  ·rw [e3,e4,hsum]
 ·have:=lt_of_pow2M hz.leM hvd
  omega
theorem OkD.oddM {s:Bool} {m:Nat} {x:Int} (h:OkD s m x) (h0:0 < m):m % 2 = 1∧-1073741824≤x∧x≤1073741824:=by
 rcases h with ⟨h,_⟩|h
 ·omega
 ·exact h
theorem add_inM {s:Bool} {m:Nat} {x:Int} {s':Bool} {m':Nat} {x':Int} (L:Int) (K:Nat) (hA:OkD s m x) (hB:OkD s' m' x') (hL:-1073741824≤L) (hL0:L≤0) (hK:K≤500000) (hx:L≤x) (hx':L≤x') (hk:m * 2 ^ (x - L).toNat < 2 ^ K) (hk':m' * 2 ^ (x' - L).toNat < 2 ^ K) :
  ∃ q v y,SumsM s m x s' m' x' 0 q v y∧OkD q v y∧L≤y∧v * 2 ^ (y - L).toNat < 2 ^ (K+1)∧sv q (v * 2 ^ (y - L).toNat) = sv s (m * 2 ^ (x - L).toNat)+sv s' (m' * 2 ^ (x' - L).toNat):=by
 have hup:∀ {a:Nat},a < 2 ^ K→a < 2 ^ (K+1):=fun h=>by rw [Nat.pow_succ]; omega
 rcases Nat.eq_zero_or_pos m with h0|h0
 ·refine ⟨s',m',x',fun W A N C A' N' C' g g' _=>?_,hB,hx',hup hk',by rw [h0,Nat.zero_mul,sv_zero,Int.zero_add]⟩
  obtain rfl:=g.zero.2 h0
  refine (Add_left _ A C _ _ _ A' N' C' _ _ W ⟨g,hA⟩ ⟨g',hB⟩).mono ?_
  rintro e w' ⟨⟨A,N,C,rfl,h1⟩,hb⟩
  exact ⟨⟨A,N,C,rfl,h1⟩,hb⟩
 rcases Nat.eq_zero_or_pos m' with h1|h1
 ·refine ⟨s,m,x,fun W A N C A' N' C' g g' _=>?_,hA,hx,hup hk,by rw [h1,Nat.zero_mul,sv_zero,Int.add_zero]⟩
  obtain rfl:=g'.zero.2 h1
  refine (Add_right _ A N C _ _ _ A' C' _ _ W ⟨g,hA⟩ ⟨g',hB⟩ (by have:=g.zero; omega)).mono ?_
  rintro e w' ⟨⟨A,N,C,rfl,h1⟩,hb⟩
  exact ⟨⟨A,N,C,rfl,h1⟩,hb⟩
 have a1:=hA.oddM h0
 have b1:=hB.oddM h1
 obtain ⟨t,ht⟩:∃ t,min x x' = t:=⟨_,rfl⟩
 obtain ⟨i,hi⟩:∃ i:Nat,x - t = (i:Int):=⟨(x - t).toNat,by omega⟩
 obtain ⟨j,hj⟩:∃ j:Nat,x' - t = (j:Int):=⟨(x' - t).toNat,by omega⟩
 obtain ⟨d,hd⟩:∃ d:Nat,t - L = (d:Int):=⟨(t - L).toNat,by omega⟩
 have e1:(x - L).toNat = i+d:=by omega
 have e2:(x' - L).toNat = j+d:=by omega
 have hd1:1≤2 ^ d:=pow_pos2 d
 have ha:m * 2 ^ i < 2 ^ K:=by
  rw [e1,Nat.pow_add,← Nat.mul_assoc] at hk
  exact Nat.lt_of_le_of_lt (Nat.le_mul_of_pos_right _ hd1) hk
 have hb:m' * 2 ^ j < 2 ^ K:=by
  rw [e2,Nat.pow_add,← Nat.mul_assoc] at hk'
  exact Nat.lt_of_le_of_lt (Nat.le_mul_of_pos_right _ hd1) hk'
 have hov:¬ Over (m * 2 ^ i+m' * 2 ^ j):=not_over (n:=K+1) (by rw [Nat.pow_succ]; omega) (by omega)
 by_cases hs:s = s'
 ·subst hs
  exact add_in0M (r:=s) a1 b1 ht hi hj hd hL hL0 hK hk hk' (fun W A N C A' N' C' g g'=>addS_same s A N C _ A' N' C' _ W g g' hov) (by unfold sv; cases s <;> simp <;> omega)
 ·rcases Nat.lt_or_ge (m * 2 ^ i) (m' * 2 ^ j) with hc|hc
  ·refine add_in0M (r:=s') (v:=m' * 2 ^ j - m * 2 ^ i) a1 b1 ht hi hj hd hL hL0 hK hk hk' (fun W A N C A' N' C' g g'=>?_) (by generalize m * 2 ^ i = u at *; generalize m' * 2 ^ j = u' at *; unfold sv; cases s <;> cases s' <;> simp at hs ⊢ <;> omega)
   cases s <;> cases s'
   ·exact absurd rfl hs
   ·exact addS_lt_f A N C _ A' N' C' _ W g g' hc
   ·exact addS_lt_t A N C _ A' N' C' _ W g g' hc
   ·exact absurd rfl hs
  ·refine add_in0M (r:=s) (v:=m * 2 ^ i - m' * 2 ^ j) a1 b1 ht hi hj hd hL hL0 hK hk hk' (fun W A N C A' N' C' g g'=>?_) (by generalize m * 2 ^ i = u at *; generalize m' * 2 ^ j = u' at *; unfold sv; cases s <;> cases s' <;> simp at hs ⊢ <;> omega)
   cases s <;> cases s'
   ·exact absurd rfl hs
   ·exact addS_ge_f A N C _ A' N' C' _ W g g' hc
   ·exact addS_ge_t A N C _ A' N' C' _ W g g' hc
   ·exact absurd rfl hs
theorem sv_timesM (s s':Bool) (a b:Nat):sv (s != s') (a * b) = sv s a * sv s' b:=by
 unfold sv
 cases s <;> cases s' <;> simp [Int.natCast_mul,Int.neg_mul,Int.mul_neg]
theorem mul_inM {s:Bool} {m:Nat} {x:Int} {s':Bool} {m':Nat} {x':Int} (L L':Int) (K K':Nat) (hA:OkD s m x) (hB:OkD s' m' x') (hL:-100000≤L) (hL0:L≤0) (hL':-100000≤L') (hL0':L'≤0) (hK:K≤200000) (hK':K'≤200000) (hx:L≤x) (hx':L'≤x') (hk:m * 2 ^ (x - L).toNat < 2 ^ K) (hk':m' * 2 ^ (x' - L').toNat < 2 ^ K') :
  ∃ q v y,ProdsM s m x s' m' x' 0 q v y∧OkD q v y∧L+L'≤y∧v * 2 ^ (y - (L+L')).toNat < 2 ^ (K+K')∧sv q (v * 2 ^ (y - (L+L')).toNat) = sv s (m * 2 ^ (x - L).toNat) * sv s' (m' * 2 ^ (x' - L').toNat):=by
 rcases mul_oneM hA hB with ⟨h0,P⟩|⟨⟨h0,h1⟩,h⟩
 ·refine ⟨_,_,_,P,Or.inl ⟨rfl,rfl,rfl⟩,by omega,by rw [Nat.zero_mul]; exact pow_pos2 _,?_⟩
  rcases h0 with h|h
  ·rw [h,Nat.zero_mul,Nat.zero_mul,sv_zero,sv_zero,Int.zero_mul]
  ·rw [h,Nat.zero_mul,Nat.zero_mul,sv_zero,sv_zero,Int.mul_zero]
 have a1:=hA.oddM h0
 have b1:=hB.oddM h1
 have hx2:(0:Nat)+(x - L).toNat < K:=lt_of_pow2M (z:=0) (v:=m) (by omega) hk
 have hx2':(0:Nat)+(x' - L').toNat < K':=lt_of_pow2M (z:=0) (v:=m') (by omega) hk'
 have e3:(x+x' - (L+L')).toNat = (x - L).toNat+(x' - L').toNat:=by omega
 have e4:m * m' * 2 ^ ((x - L).toNat+(x' - L').toNat) = m * 2 ^ (x - L).toNat * (m' * 2 ^ (x' - L').toNat):=by rw [Nat.pow_add]; ac_rfl
 have hlt:m * m' * 2 ^ ((x - L).toNat+(x' - L').toNat) < 2 ^ (K+K'):=by
  rw [e4,Nat.pow_add]
  exact Nat.mul_lt_mul'' hk hk'
 have hm:m * m' < 2 ^ (K+K'):=Nat.lt_of_le_of_lt (Nat.le_mul_of_pos_right _ (pow_pos2 _)) hlt
 rcases h with ⟨h,_⟩|⟨_,P⟩
 ·rcases h with h|h|h
  ·omega
  ·omega
  ·exact absurd h (not_over hm (by omega))
 ·refine ⟨_,_,_,P,Or.inr ⟨by rw [Nat.mul_mod,a1.1,b1.1],by omega,by omega⟩,by omega,?_,?_⟩
  ·rw [e3]; exact hlt
  ·rw [e3,e4,sv_timesM]
def Rn (w:World) (p k:Nat):Prop:=∃ cs t,w.heap[p]? = some (.cells cs t (0,0))∧cs[k]? = some (.int .i64 0)
theorem Rn.kept {w w':World} {p k:Nat} (h:Rn w p k) (hb:Below w.heap.size w w'):Rn w' p k:=by
 obtain ⟨cs,t,h1,h2⟩:=h
 exact ⟨cs,t,by rw [hb.block _ (block_lt h1)]; exact h1,h2⟩
theorem Rn.cell {w:World} {p k:Nat} (h:Rn w p k):w.cell? ⟨p,k,none⟩ = some (.int .i64 0)∧w.frozen? ⟨p,k,none⟩ = false:=by
 obtain ⟨cs,t,h1,h2⟩:=h
 exact ⟨by rw [cell_of_row w p k _ _ _ h1]; exact h2,frozen_of_row w p k _ _ h1⟩
theorem Rn.still {w:World} {p k:Nat} (h:Rn w p k):w.setCell ⟨p,k,none⟩ (.int .i64 0) = w:=by
 obtain ⟨cs,t,h1,h2⟩:=h
 exact setCell_still h1 h2
theorem keep_0 (p k:Nat) (w:World) (h:Rn w p k) :
  Calls Tryz.prog 61 #[.pointer (some ⟨p,k,none⟩),.int .i64 0] w fun en w'=>en = .returned (.tuple #[])∧Below w.heap.size w w':=by
 obtain ⟨h1,h2⟩:=h.cell
 have h3:=h.still
 go_enter Tryz.func61,Tryz.ntmps61
 go_wp2
 go_end0
 exact ⟨rfl,Below.refl _ _⟩
theorem one_any (w:World):Calls Tryz.prog 54 #[] w fun e w'=>(∃ A N C,e = .returned (.agg #[.slice A N C])∧Mine w' w.heap.size A N C 1)∧Below w.heap.size w w':=by
 go_enter Tryz.func54,Tryz.ntmps54
 go_wp2
 have hh:=heap_alloc_new (w.alloc (.cells #[.slice (some ⟨w.heap.size+1,0,none⟩) 1 1] 27)) (.cells #[.int .u32 1] 42)
 rw [World.size_alloc] at hh
 have hc:((w.alloc (.cells #[.slice (some ⟨w.heap.size+1,0,none⟩) 1 1] 27)).alloc (.cells #[.int .u32 1] 42)).cell? ⟨w.heap.size,0,none⟩ = some (.slice (some ⟨w.heap.size+1,0,none⟩) 1 1):=
  ((Fs.two w #[.slice (some ⟨w.heap.size+1,0,none⟩) 1 1] 27 #[.int .u32 1] 42).cellAt (b:=w.heap.size) (cs:=#[.slice (some ⟨w.heap.size+1,0,none⟩) 1 1]) (t:=27) (by simp) 0 _ rfl)
 exact bodyPost_ret (v:=.agg #[.slice (some ⟨w.heap.size+1,0,none⟩) 1 1]) (by simp [results,Tryz.results54,go_sem,hc]) rfl ⟨⟨_,_,_,rfl,[1],rfl,Or.inr ⟨w.heap.size+1,1,#[.int .u32 1],rfl,by omega,hh,by decide,by decide,by decide,fun j hj=>by
  have:j = 0:=by simp at hj; omega
  subst this; rfl⟩,by intro x hx; simp at hx; omega,by simp [Pl.Norm],by decide,by decide⟩,(Fs.two w _ _ _ _).fr⟩
def Vals (E F b:Int) (s:Bool) (m:Nat) (x:Int):Prop:=∀ W:World,Tb W→Calls Tryz.prog 51 #[.agg #[.int .i64 E,.int .i64 F],.int .u64 b] W fun e w'=>(∃ A N C,e = .returned (.tuple #[.agg #[.bool s,.slice A N C,.int .i64 x],.int .i64 0])∧Mine w' W.heap.size A N C m)∧Below W.heap.size W w'
def Mk1 (s:Bool) (x:Int):Prop:=∀ (W:World) (B:Nat) (A:Option Addr) (N C:Nat),Mine W B A N C 1→Tb W→Calls Tryz.prog 53 #[.bool s,.agg #[.slice A N C],.int .i64 x] W fun e w'=>(∃ A N C,e = .returned (.tuple #[.agg #[.bool s,.slice A N C,.int .i64 x],.int .i64 0])∧Mine w' W.heap.size A N C 1)∧Below W.heap.size W w'
theorem mine_caps {w:World} {B:Nat} {a:Option Addr} {n c m:Nat} (h:Mine w B a n c m):n≤c∧c≤9223372036854775807:=by
 obtain ⟨xs,hn,ho,_⟩:=h
 obtain ⟨a',c',e,h1,h2,_⟩:=ho.lim
 cases e
 exact ⟨by omega,h2⟩
theorem mk1 (s:Bool) (k:Int) (hk:-1073741824≤k∧k≤1073741824):Mk1 s k:=fun W B A N C h hT=>by
 have hc:=mine_caps h
 have:=make_ok s A N C 1 0 k W h.num (by decide) hT ⟨0,by decide⟩ (by decide) hc.1 hc.2 (by omega)
 rw [show k+((0:Nat):Int) = k from by omega,show 1 / 2 ^ 0 = 1 from by decide] at this
 exact this
theorem vals_zero {E F B b:Nat} {s:Bool} (h0:Fo E F) (HB:Hid (B = 2 ^ (E - 1) - 1)) (hB:Bt E F b s 0 0):Vals E F b false 0 0:=fun W _=>by
 refine (Value_zero E F B b s W h0 HB hB).mono ?_
 rintro e w' ⟨rfl,hb⟩
 exact ⟨⟨none,0,0,rfl,mine_none _ _⟩,hb⟩
theorem vals_wo {E F B b ex fr M z:Nat} {s:Bool} {xe:Int} (h0:Fo E F) (HB:Hid (B = 2 ^ (E - 1) - 1)) (hB:Bt E F b s ex fr) (hW:Wo E F B ex fr M z xe):Vals E F b s (M / 2 ^ z) (xe+(z:Int)):=fun W hT=>
 Value_wo E F B b ex fr s M z xe W h0 HB hB hW hT
theorem nratio_ok {s:Bool} {m:Nat} {x:Int} (hA:OkD s m x) {i j:Nat} (hi:max x 0 = (i:Int)) (hj:max (-x) 0 = (j:Int)) (hV:¬ Over (m * 2 ^ i)) (hM:¬ Over (1 * 2 ^ j)) (W:World) (A:Option Addr) (N C:Nat) (g:Num W A N m) :
  Calls Tryz.prog 24 #[.agg #[.bool s,.slice A N C,.int .i64 x]] W fun e w'=>(∃ A N C A' N' C',e = .returned (.tuple #[.agg #[.bool s,.slice A N C,.slice A' N' C'],.int .i64 0])∧Mine w' W.heap.size A N C (m * 2 ^ i)∧Mine w' W.heap.size A' N' C' (1 * 2 ^ j))∧Below W.heap.size W w':=by
 have hx:-1073741824≤x∧x≤1073741824:=by
  rcases hA with ⟨_,_,h⟩|⟨_,h⟩
  ·omega
  ·exact h
 have up:∀ {u t:Nat},¬ Over (u * 2 ^ t)→t < 9223372036854775808→∀ (W:World) (A:Option Addr) (N C:Nat),Num W A N u→Calls Tryz.prog 63 #[.agg #[.slice A N C],.int .i64 (t:Int)] W fun en W'=>(∃ a n c,en = .returned (.tuple #[.agg #[.slice a n c],.int .i64 0])∧Mine W' W.heap.size a n c (u * 2 ^ t))∧Below W.heap.size W W':=fun hn ht W A N C g=>by
  refine (up_any A N C _ _ W g ht).mono ?_
  rintro e w' ⟨h1,hb⟩
  rcases h1 with h1|⟨_,h1⟩
  ·exact ⟨h1,hb⟩
  ·exact absurd h1 hn
 exact xr_ok2 W s A N C m x i j _ _ g hx hi hj (hide fun W A N C g=>dcheck_dy s A N C m x W ⟨g,hA⟩) (hide (up hV (by omega))) (hide (up hM (by omega)))
def RnE (w:World) (p k:Nat) (e:Int):Prop:=∃ cs t,w.heap[p]? = some (.cells cs t (0,0))∧cs[k]? = some (.int .i64 e)
theorem RnE.kept {w w':World} {p k:Nat} {e:Int} (h:RnE w p k e) (hb:Below w.heap.size w w'):RnE w' p k e:=by
 obtain ⟨cs,t,h1,h2⟩:=h
 exact ⟨cs,t,by rw [hb.block _ (block_lt h1)]; exact h1,h2⟩
theorem keep_g (p k:Nat) (er c:Int) (hc:er = 0→c = 0) (w:World) (h:RnE w p k er) :
  Calls Tryz.prog 61 #[.pointer (some ⟨p,k,none⟩),.int .i64 c] w fun en w'=>en = .returned (.tuple #[])∧Below w.heap.size w w':=by
 by_cases he:er = 0
 ·obtain rfl:=hc he
  subst he; exact keep_0 p k w h
 ·obtain ⟨cs,t,h1,h2⟩:=h
  have c1:w.cell? ⟨p,k,none⟩ = some (.int .i64 er):=by rw [cell_of_row w p k _ _ _ h1]; exact h2
  have hb0:(er == 0) = false:=by simp [he]
  clear h1 h2 he
  go_enter Tryz.func61,Tryz.ntmps61
  go_wp2
  go_end0
  exact ⟨rfl,Below.refl _ _⟩
theorem runDyadic_g (p k:Nat) (er c:Int) (hc:er = 0→c = 0) (s:Bool) (a:Option Addr) (n cap:Nat) (x:Int) (w:World) (h:RnE w p k er) :
  Calls Tryz.prog 56 #[.pointer (some ⟨p,k,none⟩),.agg #[.bool s,.slice a n cap,.int .i64 x],.int .i64 c] w fun e w'=>e = .returned (.agg #[.bool s,.slice a n cap,.int .i64 x])∧Below w.heap.size w w':=by
 have H:=hide h
 clear h
 go_enter Tryz.func56,Tryz.ntmps56
 go_wp2_with fail
 refine (keep_g p k er c hc _ ((unhide H).kept (Fs.two w _ _ _ _).fr)).mono ?_
 rintro e w1 ⟨rfl,hb1⟩
 have hS:=(Fs.two w _ _ _ _).kept hb1
 obtain ⟨⟨ya,yb,yc,-⟩,⟨yd,ye,yf,-⟩,-⟩:=hS.cells
 have Q_:=hS.frozen (b:=w.heap.size+1) (cs:=#[.bool false,.slice none 0 0,.int .i64 0]) (t:=58) (by simp)
 have fz0:=Q_ 0
 have fz1:=Q_ 1
 have fz2:=Q_ 2
 clear Q_
 go_wp2
 exact bodyPost_ret (v:=.agg #[.bool s,.slice a n cap,.int .i64 x]) (by simp [results,Tryz.results56,go_sem,yd,ye,yf]) rfl ⟨rfl,((hS.fr.setCell (by simp <;> omega) _).setCell (by simp <;> omega) _).setCell (by simp <;> omega) _⟩
theorem runRatio_g (p k:Nat) (er c:Int) (hc:er = 0→c = 0) (s:Bool) (a:Option Addr) (n cap:Nat) (a':Option Addr) (n' cap':Nat) (w:World) (h:RnE w p k er) :
  Calls Tryz.prog 23 #[.pointer (some ⟨p,k,none⟩),.agg #[.bool s,.slice a n cap,.slice a' n' cap'],.int .i64 c] w fun e w'=>e = .returned (.agg #[.bool s,.slice a n cap,.slice a' n' cap'])∧Below w.heap.size w w':=by
 have H:=hide h
 clear h
 go_enter Tryz.func23,Tryz.ntmps23
 go_wp2_with fail
 refine (keep_g p k er c hc _ ((unhide H).kept (Fs.two w _ _ _ _).fr)).mono ?_
 rintro e w1 ⟨rfl,hb1⟩
 have hS:=(Fs.two w _ _ _ _).kept hb1
 obtain ⟨⟨ya,yb,yc,-⟩,⟨yd,ye,yf,-⟩,-⟩:=hS.cells
 have Q_:=hS.frozen (b:=w.heap.size+1) (cs:=#[.bool false,.slice none 0 0,.slice none 0 0]) (t:=29) (by simp)
 have fz0:=Q_ 0
 have fz1:=Q_ 1
 have fz2:=Q_ 2
 clear Q_
 go_wp2
 exact bodyPost_ret (v:=.agg #[.bool s,.slice a n cap,.slice a' n' cap']) (by simp [results,Tryz.results23,go_sem,yd,ye,yf]) rfl ⟨rfl,((hS.fr.setCell (by simp <;> omega) _).setCell (by simp <;> omega) _).setCell (by simp <;> omega) _⟩
theorem keep_gw (p k:Nat) (e:Int) (cs:Array Value) (t:TypeId) (w:World) (h:w.heap[p]? = some (.cells cs t (0,0))) (hk:cs[k]? = some (.int .i64 0)) :
  Calls Tryz.prog 61 #[.pointer (some ⟨p,k,none⟩),.int .i64 e] w fun en w'=>en = .returned (.tuple #[])∧w' = w.setCell ⟨p,k,none⟩ (.int .i64 e):=by
 have hc:w.cell? ⟨p,k,none⟩ = some (.int .i64 0):=by rw [cell_of_row w p k _ _ _ h]; exact hk
 have hf:w.frozen? ⟨p,k,none⟩ = false:=frozen_of_row w p k _ _ h
 go_enter Tryz.func61,Tryz.ntmps61
 go_wp2
 go_end0
 exact ⟨rfl,rfl⟩
theorem runDyadic_gw (p k:Nat) (e:Int) (cs:Array Value) (t:TypeId) (s:Bool) (a:Option Addr) (n c:Nat) (x:Int) (w:World) (h:w.heap[p]? = some (.cells cs t (0,0))) (hk:cs[k]? = some (.int .i64 0)) :
  Calls Tryz.prog 56 #[.pointer (some ⟨p,k,none⟩),.agg #[.bool s,.slice a n c,.int .i64 x],.int .i64 e] w fun en w'=>en = .returned (.agg #[.bool s,.slice a n c,.int .i64 x])∧Below w.heap.size (w.setCell ⟨p,k,none⟩ (.int .i64 e)) w':=by
 have hlt:=block_lt h
 obtain ⟨V,hV⟩:∃ V,V = w.setCell ⟨p,k,none⟩ (.int .i64 e):=⟨_,rfl⟩
 have hsz:(w.setCell ⟨p,k,none⟩ (.int .i64 e)).heap.size = w.heap.size:=by simp
 have H2:Hid (((w.alloc (.cells #[.bool s,.slice a n c,.int .i64 x] 58)).alloc (.cells #[.bool false,.slice none 0 0,.int .i64 0] 58)).heap[p]? = some (.cells cs t (0,0))):=by
  refine hide ?_
  rw [(gr_trans (gr_alloc w _) (gr_alloc _ _)).block p hlt]; exact h
 have HW:Hid (((w.alloc (.cells #[.bool s,.slice a n c,.int .i64 x] 58)).alloc (.cells #[.bool false,.slice none 0 0,.int .i64 0] 58)).setCell ⟨p,k,none⟩ (.int .i64 e) = (V.alloc (.cells #[.bool s,.slice a n c,.int .i64 x] 58)).alloc (.cells #[.bool false,.slice none 0 0,.int .i64 0] 58)):=by
  refine hide ?_
  rw [World.setCell_alloc_past _ p k _ (by simp; omega),World.setCell_alloc_past _ p k _ hlt,hV]
 clear h
 go_enter Tryz.func56,Tryz.ntmps56
 go_wp2_with fail
 refine (keep_gw p k e cs t _ (unhide H2) hk).mono ?_
 rintro e1 w1 ⟨rfl,rfl⟩
 rw [unhide HW]
 rw [← hV] at hsz
 have hS:=Fs.two V #[.bool s,.slice a n c,.int .i64 x] 58 #[.bool false,.slice none 0 0,.int .i64 0] 58
 rw [hsz] at hS
 obtain ⟨⟨ya,yb,yc,-⟩,⟨yd,ye,yf,-⟩,-⟩:=hS.cells
 have Q_:=hS.frozen (b:=w.heap.size+1) (cs:=#[.bool false,.slice none 0 0,.int .i64 0]) (t:=58) (by simp)
 have fz0:=Q_ 0
 have fz1:=Q_ 1
 have fz2:=Q_ 2
 clear Q_
 go_wp2
 have hfr:=gr_trans (gr_alloc V (.cells #[.bool s,.slice a n c,.int .i64 x] 58)) (gr_alloc _ (.cells #[.bool s,.slice a n c,.int .i64 x] 58))
 rw [hsz] at hfr
 exact bodyPost_ret (v:=.agg #[.bool s,.slice a n c,.int .i64 x]) (by simp [results,Tryz.results56,go_sem]) rfl ⟨rfl,by rw [← hV]; exact hfr⟩
theorem tb_but {p:Nat} {w W:World} {E:Int} {cs:List Value} {t:TypeId} (h:Tb w) (hp:w.heap[p]? = some (.cells ⟨.int .i64 E :: cs⟩ t (0,0))) (hb:OneBut p w W):Tb W:=by
 have hne:1≠p:=fun e=>by
  have h1:=h.2 0 (by decide)
  rw [e,cell_of_row w p 0 _ _ _ hp] at h1
  cases h1
 have hbl:=hb.block _ h.1 hne
 refine ⟨Nat.lt_of_lt_of_le h.1 hb.size,fun j hj=>?_⟩
 rw [← h.2 j hj]
 unfold World.cell?
 simp only [hbl]
theorem as_wH {P:Program} {fn:FuncId} {args:Array Value} {W:World} {b off m m':Nat} {f:Value→Value→Value} {xs:List Value} (h:Calls P fn args W fun en W'=>(∃ a n c a' n' c',en = .returned (f (.slice a n c) (.slice a' n' c'))∧Mine W' 0 a n c m∧Mine W' 0 a' n' c' m')∧Below W.heap.size (evs (sts b off xs) W) W'):Calls P fn args W fun en W'=>∃ q,en = .returned ((cH 0 m m' f).f q)∧((fun _:Pq=>xs) q).length = xs.length∧Below W.heap.size (evs (sts b off ((fun _:Pq=>xs) q)) W) W'∧(cH 0 m m' f).g q W':=
 h.mono fun _ _ ⟨⟨a,n,c,a',n',c',h1,h3,h4⟩,h2⟩=>⟨{ pq0 with A:=a,N:=n,C:=c,A':=a',N':=n',C':=c' },h1,rfl,h2,h3,h4⟩
theorem Ulp_is (E F b:Int) (s0:Bool) (m:Nat) (x:Int) (s1:Bool) (ex fr lo hi mx k:Int) (w:World) (hT:Tb w) (HV:Hid (Vals E F b s0 m x)) (HP:Tel 7 #[.agg #[.int .i64 E,.int .i64 F],.int .u64 b] (.tuple #[.agg #[.bool s1,.int .i64 ex,.int .u64 fr],.int .i64 0])) (HG:Tel 52 #[.agg #[.int .i64 E,.int .i64 F]] (.tuple #[.int .i64 lo,.int .i64 hi,.int .i64 0])) (hmx:max ex 1 = mx) (hk:lo+mx - 1 = k) (hlo:-100000≤lo∧lo≤100000) (hmx2:0≤mx∧mx≤100000) (HK:Hid (Mk1 false k)) :
  Calls Tryz.prog 19 #[.agg #[.int .i64 E,.int .i64 F],.int .u64 b] w fun e w'=>(∃ A N C,e = .returned (.tuple #[.agg #[.bool false,.slice A N C,.int .i64 k],.int .i64 0])∧Mine w' w.heap.size A N C 1)∧Below w.heap.size w w':=by
 have HT:=hide hT
 clear hT
 go_enter Tryz.func19,Tryz.ntmps19
 go_wp2_with fail
 refine (unhide HV _ ((unhide HT).kept (Fs.two w _ _ _ _).fr)).mono ?_
 rintro e w1 ⟨⟨A1,N1,C1,rfl,f1⟩,hb1⟩
 have hS:=(Fs.two w _ _ _ _).kept hb1
 obtain ⟨⟨ya,yb,-⟩,⟨yc,yd,ye,-⟩,-⟩:=hS.cells
 clear f1
 have hltw1_0:w.heap.size < w1.heap.size:=hS.lt 0 rfl
 have hltw1_1:w.heap.size+1 < w1.heap.size:=hS.lt 1 rfl
 replace hS:=hS.alloc #[.bool s0,.slice A1 N1 C1,.int .i64 x] 58
 clear ya yb yc yd ye
 obtain ⟨⟨yf,yg,yh,-⟩,⟨yi,yj,-⟩,⟨yk,yl,ym,-⟩,-⟩:=hS.cells
 go_wp2_with fail
 refine (HP _).mono ?_
 rintro e w2 ⟨rfl,hb2⟩
 replace hS:=hS.kept hb2
 clear yf yg yh yi yj yk yl ym
 obtain ⟨⟨yn,yo,yp,-⟩,⟨yq,yr,-⟩,⟨ys,yt,yu,-⟩,-⟩:=hS.cells
 have hltw2_0:w1.heap.size < w2.heap.size:=hS.lt 0 rfl
 have hltw2_1:w.heap.size < w2.heap.size:=hS.lt 1 rfl
 have hltw2_2:w.heap.size+1 < w2.heap.size:=hS.lt 2 rfl
 replace hS:=hS.alloc #[.bool s1,.int .i64 ex,.int .u64 fr] 35
 clear yn yo yp yq yr ys yt yu
 obtain ⟨⟨yv,yw,yx,-⟩,⟨yy,yz,y0,-⟩,⟨y1,y2,-⟩,⟨y3,y4,y5,-⟩,-⟩:=hS.cells
 go_wp2_with fail
 refine (HG _).mono ?_
 rintro e w3 ⟨rfl,hb3⟩
 replace hS:=hS.kept hb3
 clear yv yw yx yy yz y0 y1 y2 y3 y4 y5
 obtain ⟨⟨y6,y7,y8,-⟩,⟨y9,yba,ybb,-⟩,⟨ybc,ybd,-⟩,⟨ybe,ybf,ybg,-⟩,-⟩:=hS.cells
 have hltw3_0:w2.heap.size < w3.heap.size:=hS.lt 0 rfl
 have hltw3_1:w1.heap.size < w3.heap.size:=hS.lt 1 rfl
 have hltw3_2:w.heap.size < w3.heap.size:=hS.lt 2 rfl
 have hltw3_3:w.heap.size+1 < w3.heap.size:=hS.lt 3 rfl
 go_wp2_with fail
 have hS3s:w.heap.size≤w3.heap.size:=hS.size
 have hs9:∀ x9:Nat×(Pk→World→Prop),x9∈([(0,fun q W=>Mine W (w.heap.size+2) q.A q.N q.C 1),(7,fun q W=>Mine W (w.heap.size+2) q.A q.N q.C (1))]:List (Nat×(Pk→World→Prop)))→∀ q9:Pk,St (w.heap.size+2) (x9.2 q9):=by
  intro x hx q
  simp only [List.mem_cons,List.not_mem_nil,or_false] at hx
  rcases hx with rfl|rfl
  ·exact st_mine _ _ _ _ _
  ·exact st_mine _ _ _ _ _
 have h09:∀ x9:Nat×(Pk→World→Prop),x9∈([(0,fun q W=>Mine W (w.heap.size+2) q.A q.N q.C 1),(7,fun q W=>Mine W (w.heap.size+2) q.A q.N q.C (1))]:List (Nat×(Pk→World→Prop)))→12≤x9.1→x9.2 ⟨none,0,0⟩ w3:=by
  intro x hx hn9
  simp only [List.mem_cons,List.not_mem_nil,or_false] at hx
  rcases hx with rfl|rfl
  ·exact absurd hn9 (by simp)
  ·exact absurd hn9 (by simp)
 refine wp_region_any (by kernel_rfl) ?_
 refine wpAny_pick (fun p9=>[some (35,.agg #[.slice (p9 0).A (p9 0).N (p9 0).C]),some (36,.int .i64 lo),some (37,.pointer (some ⟨w2.heap.size,1,none⟩)),some (38,.int .i64 ex),some (39,.int .i64 mx),some (40,.int .i64 (lo+mx)),some (41,.int .i64 k),some (42,.tuple #[.agg #[.bool false,.slice (p9 7).A (p9 7).N (p9 7).C,.int .i64 k],.int .i64 0]),some (43,.agg #[.bool false,.slice (p9 7).A (p9 7).N (p9 7).C,.int .i64 k]),some (44,.int .i64 0),none,some (5,.int .i64 0)])
  (fun p9 l9 W9=>Pm w (w.heap.size+2) [(0,fun q W=>Mine W (w.heap.size+2) q.A q.N q.C 1),(7,fun q W=>Mine W (w.heap.size+2) q.A q.N q.C (1))] p9 l9 W9 (pickBs l9 [(10,[⟨w2.heap.size,#[.bool s1,.int .i64 ex,.int .u64 fr],35⟩,⟨w1.heap.size,#[.bool s0,.slice A1 N1 C1,.int .i64 x],58⟩,⟨w.heap.size,#[.int .i64 E,.int .i64 F],23⟩,⟨w.heap.size+1,#[.bool false,.slice (p9 7).A (p9 7).N (p9 7).C,.int .i64 k],58⟩])] [⟨w2.heap.size,#[.bool s1,.int .i64 ex,.int .u64 fr],35⟩,⟨w1.heap.size,#[.bool s0,.slice A1 N1 C1,.int .i64 x],58⟩,⟨w.heap.size,#[.int .i64 E,.int .i64 F],23⟩,⟨w.heap.size+1,#[.bool false,.slice none 0 0,.int .i64 0],58⟩])) _ _ (fun _=>rfl) (by kernel_rfl) (fun _=>rfl) (fun _=>rfl) ?_ ?_ (fun _=>⟨none,0,0⟩) (Pm.start2 hS _ _ _ (by omega) hs9 h09)
 ·intro p9 l9 t9 W9 i9 hD hi9 hl9 hM
  obtain ⟨o9,ho9,hd9⟩:=(mem_ready.1 hi9).2
  have hin9:i9 < 12:=by
   by_cases h:i9 < 12
   ·exact h
   ·rw [Array.getElem?_eq_none (by rw [hD.len]; simp; omega)] at hl9; cases hl9
  have hcase:i9 = 0∨i9 = 1∨i9 = 2∨i9 = 3∨i9 = 4∨i9 = 5∨i9 = 6∨i9 = 7∨i9 = 8∨i9 = 9∨i9 = 10∨i9 = 11:=by omega
  clear hin9
  rcases hcase with rfl|rfl|rfl|rfl|rfl|rfl|rfl|rfl|rfl|rfl|rfl|rfl
  ·cases ho9
   have hM0:Fs w W9 [⟨w2.heap.size,#[.bool s1,.int .i64 ex,.int .u64 fr],35⟩,⟨w1.heap.size,#[.bool s0,.slice A1 N1 C1,.int .i64 x],58⟩,⟨w.heap.size,#[.int .i64 E,.int .i64 F],23⟩,⟨w.heap.size+1,#[.bool false,.slice none 0 0,.int .i64 0],58⟩]:=by
    have hM1:=hM.st
    simp only [pickBs] at hM1
    rw [if_neg (hD.waits 0 10 _ ⟨0,.phase⟩ hl9 rfl (by simp) rfl rfl)] at hM1
    exact hM1
   have HD:=hide hD
   have hn10:=hD.waits 0 10 _ ⟨0,.phase⟩ hl9 rfl (by simp) rfl rfl
   refine wpOp_step rfl fun K hK=>?_
   go_simp
   go_wp2_with fail
   refine (one_any _).mono ?_
   rintro en w9 ⟨⟨a9,n9,c9,rfl,h9⟩,hb9⟩
   refine hK _ _ ⟨p9.set 0 ⟨a9,n9,c9⟩,?_,rfl,(Pm.keepM rfl (((hM.kept hs9 hb9).pick ⟨a9,n9,c9⟩ ?_).into (by simp only [pickBs]; rw [if_neg hn10,if_neg hn10])))⟩
   ·intro k9 hk9
    clear hM hK
    match k9,hk9 with
    | 0,hk9=>exact absurd (hl9.symm.trans hk9) (by simp)
    | 1,_=>rfl
    | 2,_=>rfl
    | 3,_=>rfl
    | 4,_=>rfl
    | 5,_=>rfl
    | 6,_=>rfl
    | 7,hk9=>exact absurd (hl9.symm.trans (getD_true ((unhide HD).shut 7 _ (hk9) rfl ⟨0,.data⟩ (by simp) rfl))) (by simp)
    | 8,hk9=>exact absurd (hl9.symm.trans (getD_true ((unhide HD).shut 7 _ (getD_true ((unhide HD).shut 8 _ (hk9) rfl ⟨7,.data⟩ (by simp) rfl)) rfl ⟨0,.data⟩ (by simp) rfl))) (by simp)
    | 9,hk9=>exact absurd (hl9.symm.trans (getD_true ((unhide HD).shut 7 _ (getD_true ((unhide HD).shut 9 _ (hk9) rfl ⟨7,.data⟩ (by simp) rfl)) rfl ⟨0,.data⟩ (by simp) rfl))) (by simp)
    | 10,hk9=>exact absurd (hl9.symm.trans (getD_true ((unhide HD).shut 10 _ (hk9) rfl ⟨0,.phase⟩ (by simp) rfl))) (by simp)
    | 11,hk9=>exact absurd (hl9.symm.trans (getD_true ((unhide HD).shut 11 _ (hk9) rfl ⟨0,.phase⟩ (by simp) rfl))) (by simp)
    | k9+12,_=>rfl
   ·intro x hx he; simp only [List.mem_cons,List.not_mem_nil,or_false] at hx; rcases hx with rfl|rfl
    ·exact h9.mono hM.bw
    ·exact absurd he (by simp)
  ·cases ho9
   have r10:=hD.old 10 _ rfl rfl
   refine wpOp_step rfl fun K hK=>?_
   go_simp
   exact hK _ _ ⟨p9,fun _ _=>rfl,rfl,(Pm.keepM rfl (hM.val rfl))⟩
  ·cases ho9
   have r8:=hD.old 8 _ rfl rfl
   refine wpOp_step rfl fun K hK=>?_
   go_simp
   exact hK _ _ ⟨p9,fun _ _=>rfl,rfl,(Pm.keepM rfl (hM.val rfl))⟩
  ·cases ho9
   have r37:=hD.od hd9 2 37 _ rfl (by simp)
   have hM0:Fs w W9 [⟨w2.heap.size,#[.bool s1,.int .i64 ex,.int .u64 fr],35⟩,⟨w1.heap.size,#[.bool s0,.slice A1 N1 C1,.int .i64 x],58⟩,⟨w.heap.size,#[.int .i64 E,.int .i64 F],23⟩,⟨w.heap.size+1,#[.bool false,.slice none 0 0,.int .i64 0],58⟩]:=by
    have hM1:=hM.st
    simp only [pickBs] at hM1
    rw [if_neg (hD.waits 3 10 _ ⟨3,.phase⟩ hl9 rfl (by simp) rfl rfl)] at hM1
    exact hM1
   have c9_0:=hM0.cellAt (b:=w2.heap.size) (cs:=#[.bool s1,.int .i64 ex,.int .u64 fr]) (t:=35) (by simp) 1 _ rfl
   clear hM0
   refine wpOp_step rfl fun K hK=>?_
   go_simp
   exact hK _ _ ⟨p9,fun _ _=>rfl,rfl,(Pm.keepM rfl (hM.val rfl))⟩
  ·cases ho9
   have r38:=hD.od hd9 3 38 _ rfl (by simp)
   refine wpOp_step rfl fun K hK=>?_
   go_simp
   exact hK _ _ ⟨p9,fun _ _=>rfl,act_eq (by first|rfl|(rw [← hmx]; rfl)|(simp [hmx])),(Pm.keepM rfl (hM.val rfl))⟩
  ·cases ho9
   have r36:=hD.od hd9 1 36 _ rfl (by simp)
   have r39:=hD.od hd9 4 39 _ rfl (by simp)
   refine wpOp_step rfl fun K hK=>?_
   go_simp
   exact hK _ _ ⟨p9,fun _ _=>rfl,act_eq (by (show Value.int _ _ = Value.int _ _; congr 1; (first|rfl|omega|(rw [IntKind.wrap_i64]; omega)|(rw [IntKind.wrap_u64]; omega)))),(Pm.keepM rfl (hM.val rfl))⟩
  ·cases ho9
   have r40:=hD.od hd9 5 40 _ rfl (by simp)
   refine wpOp_step rfl fun K hK=>?_
   go_simp
   exact hK _ _ ⟨p9,fun _ _=>rfl,act_eq (by first|rfl|(show Value.int _ _ = Value.int _ _; congr 1; first|exact hk|(rw [IntKind.wrap_i64]; omega))),(Pm.keepM rfl (hM.val rfl))⟩
  ·cases ho9
   have r35:=hD.od hd9 0 35 _ rfl (by simp)
   have r41:=hD.od hd9 6 41 _ rfl (by simp)
   have g0:=hM.fx _ (List.mem_of_getElem? (i:=0) rfl) (Or.inl (getD_true (hd9 ⟨0,.data⟩ (by simp) rfl)))
   simp only [] at g0
   have hM0:Fs w W9 [⟨w2.heap.size,#[.bool s1,.int .i64 ex,.int .u64 fr],35⟩,⟨w1.heap.size,#[.bool s0,.slice A1 N1 C1,.int .i64 x],58⟩,⟨w.heap.size,#[.int .i64 E,.int .i64 F],23⟩,⟨w.heap.size+1,#[.bool false,.slice none 0 0,.int .i64 0],58⟩]:=by
    have hM1:=hM.st
    simp only [pickBs] at hM1
    rw [if_neg (hD.waits 7 10 _ ⟨7,.chain⟩ hl9 rfl (by simp) rfl rfl)] at hM1
    exact hM1
   have HD:=hide hD
   have hn10:=hD.waits 7 10 _ ⟨7,.chain⟩ hl9 rfl (by simp) rfl rfl
   refine wpOp_step rfl fun K hK=>?_
   go_simp
   go_wp2_with fail
   refine (unhide HK _ _ _ _ _ g0 ((unhide HT).kept hM.st.fr)).mono ?_
   rintro en w9 ⟨⟨a9,n9,c9,rfl,h9⟩,hb9⟩
   refine hK _ _ ⟨p9.set 7 ⟨a9,n9,c9⟩,?_,rfl,(Pm.keepM rfl (((hM.kept hs9 hb9).pick ⟨a9,n9,c9⟩ ?_).into (by simp only [pickBs]; rw [if_neg hn10,if_neg hn10])))⟩
   ·intro k9 hk9
    clear hM hK
    match k9,hk9 with
    | 0,_=>rfl
    | 1,_=>rfl
    | 2,_=>rfl
    | 3,_=>rfl
    | 4,_=>rfl
    | 5,_=>rfl
    | 6,_=>rfl
    | 7,hk9=>exact absurd (hl9.symm.trans hk9) (by simp)
    | 8,hk9=>exact absurd (hl9.symm.trans (getD_true ((unhide HD).shut 8 _ (hk9) rfl ⟨7,.data⟩ (by simp) rfl))) (by simp)
    | 9,hk9=>exact absurd (hl9.symm.trans (getD_true ((unhide HD).shut 9 _ (hk9) rfl ⟨7,.data⟩ (by simp) rfl))) (by simp)
    | 10,hk9=>exact absurd (hl9.symm.trans (getD_true ((unhide HD).shut 10 _ (hk9) rfl ⟨7,.chain⟩ (by simp) rfl))) (by simp)
    | 11,hk9=>exact absurd (hl9.symm.trans (getD_true ((unhide HD).shut 11 _ (hk9) rfl ⟨7,.phase⟩ (by simp) rfl))) (by simp)
    | k9+12,_=>rfl
   ·intro x hx he; simp only [List.mem_cons,List.not_mem_nil,or_false] at hx; rcases hx with rfl|rfl
    ·exact absurd he (by simp)
    ·exact h9.mono hM.bw
  ·cases ho9
   have r42:=hD.od hd9 7 42 _ rfl (by simp)
   refine wpOp_step rfl fun K hK=>?_
   go_simp
   exact hK _ _ ⟨p9,fun _ _=>rfl,rfl,(Pm.keepM rfl (hM.val rfl))⟩
  ·cases ho9
   have r42:=hD.od hd9 7 42 _ rfl (by simp)
   refine wpOp_step rfl fun K hK=>?_
   go_simp
   exact hK _ _ ⟨p9,fun _ _=>rfl,rfl,(Pm.keepM rfl (hM.val rfl))⟩
  ·cases ho9
   have r4:=hD.old 4 _ rfl rfl
   have r43:=hD.od hd9 8 43 _ rfl (by simp)
   have hM0:Fs w W9 [⟨w2.heap.size,#[.bool s1,.int .i64 ex,.int .u64 fr],35⟩,⟨w1.heap.size,#[.bool s0,.slice A1 N1 C1,.int .i64 x],58⟩,⟨w.heap.size,#[.int .i64 E,.int .i64 F],23⟩,⟨w.heap.size+1,#[.bool false,.slice none 0 0,.int .i64 0],58⟩]:=by
    have hM1:=hM.st
    simp only [pickBs] at hM1
    rw [if_neg (by rw [hl9]; simp)] at hM1
    exact hM1
   have c9_0:=hM0.cellAt (b:=w.heap.size+1) (cs:=#[.bool false,.slice none 0 0,.int .i64 0]) (t:=58) (by simp) 0 _ rfl
   have z9_0:=hM0.frozen (b:=w.heap.size+1) (cs:=#[.bool false,.slice none 0 0,.int .i64 0]) (t:=58) (by simp) 0
   have c9_1:=hM0.cellAt (b:=w.heap.size+1) (cs:=#[.bool false,.slice none 0 0,.int .i64 0]) (t:=58) (by simp) 1 _ rfl
   have z9_1:=hM0.frozen (b:=w.heap.size+1) (cs:=#[.bool false,.slice none 0 0,.int .i64 0]) (t:=58) (by simp) 1
   have c9_2:=hM0.cellAt (b:=w.heap.size+1) (cs:=#[.bool false,.slice none 0 0,.int .i64 0]) (t:=58) (by simp) 2 _ rfl
   have z9_2:=hM0.frozen (b:=w.heap.size+1) (cs:=#[.bool false,.slice none 0 0,.int .i64 0]) (t:=58) (by simp) 2
   refine wpOp_step rfl fun K hK=>?_
   go_simp
   exact hK _ _ ⟨p9,fun _ _=>rfl,rfl,Pm.putM hl9 ((((hM.val rfl).put hs9 _ _ (by simp <;> omega) (hM0.put (b:=w.heap.size+1) (cs:=#[.bool false,.slice none 0 0,.int .i64 0]) (t:=58) (by simp) (by simp) 0 (.bool false) [⟨w2.heap.size,#[.bool s1,.int .i64 ex,.int .u64 fr],35⟩,⟨w1.heap.size,#[.bool s0,.slice A1 N1 C1,.int .i64 x],58⟩,⟨w.heap.size,#[.int .i64 E,.int .i64 F],23⟩,⟨w.heap.size+1,#[.bool false,.slice none 0 0,.int .i64 0],58⟩] (by simp <;> omega))).put hs9 _ _ (by simp <;> omega) ((hM0.put (b:=w.heap.size+1) (cs:=#[.bool false,.slice none 0 0,.int .i64 0]) (t:=58) (by simp) (by simp) 0 (.bool false) [⟨w2.heap.size,#[.bool s1,.int .i64 ex,.int .u64 fr],35⟩,⟨w1.heap.size,#[.bool s0,.slice A1 N1 C1,.int .i64 x],58⟩,⟨w.heap.size,#[.int .i64 E,.int .i64 F],23⟩,⟨w.heap.size+1,#[.bool false,.slice none 0 0,.int .i64 0],58⟩] (by simp <;> omega)).put (b:=w.heap.size+1) (cs:=#[.bool false,.slice none 0 0,.int .i64 0]) (t:=58) (by simp) (by simp) 1 (.slice (p9 7).A (p9 7).N (p9 7).C) [⟨w2.heap.size,#[.bool s1,.int .i64 ex,.int .u64 fr],35⟩,⟨w1.heap.size,#[.bool s0,.slice A1 N1 C1,.int .i64 x],58⟩,⟨w.heap.size,#[.int .i64 E,.int .i64 F],23⟩,⟨w.heap.size+1,#[.bool false,.slice (p9 7).A (p9 7).N (p9 7).C,.int .i64 0],58⟩] (by simp <;> omega))).put hs9 _ _ (by simp <;> omega) (((hM0.put (b:=w.heap.size+1) (cs:=#[.bool false,.slice none 0 0,.int .i64 0]) (t:=58) (by simp) (by simp) 0 (.bool false) [⟨w2.heap.size,#[.bool s1,.int .i64 ex,.int .u64 fr],35⟩,⟨w1.heap.size,#[.bool s0,.slice A1 N1 C1,.int .i64 x],58⟩,⟨w.heap.size,#[.int .i64 E,.int .i64 F],23⟩,⟨w.heap.size+1,#[.bool false,.slice none 0 0,.int .i64 0],58⟩] (by simp <;> omega)).put (b:=w.heap.size+1) (cs:=#[.bool false,.slice none 0 0,.int .i64 0]) (t:=58) (by simp) (by simp) 1 (.slice (p9 7).A (p9 7).N (p9 7).C) [⟨w2.heap.size,#[.bool s1,.int .i64 ex,.int .u64 fr],35⟩,⟨w1.heap.size,#[.bool s0,.slice A1 N1 C1,.int .i64 x],58⟩,⟨w.heap.size,#[.int .i64 E,.int .i64 F],23⟩,⟨w.heap.size+1,#[.bool false,.slice (p9 7).A (p9 7).N (p9 7).C,.int .i64 0],58⟩] (by simp <;> omega)).put (b:=w.heap.size+1) (cs:=#[.bool false,.slice (p9 7).A (p9 7).N (p9 7).C,.int .i64 0]) (t:=58) (by simp) (by simp) 2 (.int .i64 k) [⟨w2.heap.size,#[.bool s1,.int .i64 ex,.int .u64 fr],35⟩,⟨w1.heap.size,#[.bool s0,.slice A1 N1 C1,.int .i64 x],58⟩,⟨w.heap.size,#[.int .i64 E,.int .i64 F],23⟩,⟨w.heap.size+1,#[.bool false,.slice (p9 7).A (p9 7).N (p9 7).C,.int .i64 k],58⟩] (by simp <;> omega)))⟩
  ·cases ho9
   have r44:=hD.od hd9 9 44 _ rfl (by simp)
   refine wpOp_step rfl fun K hK=>?_
   go_simp
   exact hK _ _ ⟨p9,fun _ _=>rfl,rfl,(Pm.keepM rfl (hM.val rfl))⟩
 ·intro p9 l9 W9 hn9 hl9 hM
  have fr6_0:=hM.fx _ (List.mem_of_getElem? (i:=0) rfl) (Or.inl (hl9 0 (by decide)))
  have fr6_7:=hM.fx _ (List.mem_of_getElem? (i:=1) rfl) (Or.inl (hl9 7 (by decide)))
  replace hM:=hM.st
  simp only [pickBs] at hM
  rw [if_pos (hl9 10 (by decide))] at hM
  clear hl9 hs9 h09 hn9
  generalize p9 0 = q0 at *
  obtain ⟨Ar6_0,Nr6_0,Cr6_0⟩:=q0
  simp only [] at fr6_0
  generalize p9 7 = q7 at *
  obtain ⟨Ar6_7,Nr6_7,Cr6_7⟩:=q7
  simp only [] at fr6_7
  clear hS y6 y7 y8 y9 yba ybb ybc ybd ybe ybf ybg
  have hS:=hM
  clear hM
  simp only [Puts.lay,List.setIfInBounds_toArray,List.set_cons_zero,List.set_cons_succ]
  obtain ⟨⟨ybh,ybi,ybj,-⟩,⟨ybk,ybl,ybm,-⟩,⟨ybn,ybo,-⟩,⟨ybp,ybq,ybr,-⟩,-⟩:=hS.cells
  go_wp2
  exact bodyPost_ret (v:=.tuple #[.agg #[.bool false,.slice Ar6_7 Nr6_7 Cr6_7,.int .i64 k],.int .i64 0]) (by simp [results,Tryz.results19,go_sem,ybp,ybq,ybr]) rfl ⟨⟨_,_,_,rfl,Mine.mono (show Mine W9 _ _ _ _ _ from unhide fr6_7) (by omega)⟩,hS.fr⟩
end Go.Proofs.YtaidedkpfnidpaaGreatDoor
