/- Of what SoftFmasRow stands on: ExLimit ExAddO ExSum NrSum NrRun NrMid NrUlp NrRef2. -/
import Derived.Test.YtfimakkpdjppfaaGreatDoorPbc
import Derived.Test.YtfimakkpdjppfaaGreatDoorPbd
import Derived.Test.YtfimakkpdjppfaaGreatDoorPaw
import Derived.Test.YtfimakkpdjppfaaGreatDoorPaf
import Derived.Test.YtfimakkpdjppfaaGreatDoorPan
import Derived.Test.YtfimakkpdjppfaaGreatDoorPag
namespace Go.Proofs.YtfimakkpdjppfaaGreatDoor
open Go.RowKit
set_option maxHeartbeats 1000000
theorem dmul_over (a a':Option Addr) (n n' cap cap' m m':Nat) (w:World) (h:Num w a n m) (h':Num w a' n' m') (ho:Over (m * m')) :
  Calls Tryz.prog 163 #[.agg #[.slice a n cap],.agg #[.slice a' n' cap']] w fun e w'=>e = .returned (.tuple #[.agg #[.slice none 0 0],.int .i64 4])∧Below w.heap.size w w':=by
 refine (mul_any a a' n n' cap cap' m m' w h h').mono ?_
 rintro e w' ⟨⟨_,_,_,_,h1⟩|h1,hb⟩
 ·exact absurd h1.num.lt (Nat.not_lt.2 ho.le)
 ·exact ⟨h1.1,hb⟩
theorem Mul_over (s:Bool) (a:Option Addr) (n cap m:Nat) (x:Int) (s':Bool) (a':Option Addr) (n' cap' m':Nat) (x':Int) (w:World) (h:Dy w s a n m x) (h':Dy w s' a' n' m' x') (hn:0 < n) (hn':0 < n') (hx:-1073741824≤x+x'∧x+x'≤1073741824) (ho:Over (m * m')) :
  Calls Tryz.prog 155 #[.agg #[.bool s,.slice a n cap,.int .i64 x],.agg #[.bool s',.slice a' n' cap',.int .i64 x']] w fun e w'=>e = .returned (.tuple #[.agg #[.bool false,.slice none 0 0,.int .i64 0],.int .i64 4])∧Below w.heap.size w w':=by
 have H:=hide h
 have H':=hide h'
 have HO:=hide ho
 have hxr:=h.range
 have hxr':=h'.range
 clear h h' ho
 go_enter Tryz.func155,Tryz.ntmps155
 go_wp2_with fail
 refine (checkBoth_dy s a n cap m x s' a' n' cap' m' x' _ ((unhide H).kept (gr_trans (gr_trans (gr_alloc _ _) (gr_alloc _ _)) (gr_alloc _ _))) ((unhide H').kept (gr_trans (gr_trans (gr_alloc _ _) (gr_alloc _ _)) (gr_alloc _ _)))).mono ?_
 rintro e w1 ⟨rfl,hb1⟩
 have hS:=(Fs.three w _ _ _ _ _ _).kept hb1
 obtain ⟨⟨ya,yb,yc,-⟩,⟨yd,ye,yf,-⟩,⟨yg,yh,yi,-⟩,-⟩:=hS.cells
 go_wp2_with fail
 refine (isNought_no a n cap hn _).mono ?_
 rintro e w2 ⟨rfl,hb2⟩
 replace hS:=hS.kept hb2
 clear ya yb yc yd ye yf yg yh yi
 obtain ⟨⟨yj,yk,yl,-⟩,⟨ym,yn,yo,-⟩,⟨yp,yq,yr,-⟩,-⟩:=hS.cells
 go_wp2_with fail
 refine (isNought_no a' n' cap' hn' _).mono ?_
 rintro e w3 ⟨rfl,hb3⟩
 replace hS:=hS.kept hb3
 clear yj yk yl ym yn yo yp yq yr
 obtain ⟨⟨ys,yt,yu,-⟩,⟨yv,yw,yx,-⟩,⟨yy,yz,y0,-⟩,-⟩:=hS.cells
 go_wp2_with fail
 refine (beyond_no _ hx _).mono ?_
 rintro e w4 ⟨rfl,hb4⟩
 replace hS:=hS.kept hb4
 clear ys yt yu yv yw yx yy yz y0
 obtain ⟨⟨y1,y2,y3,-⟩,⟨y4,y5,y6,-⟩,⟨y7,y8,y9,-⟩,-⟩:=hS.cells
 go_wp2_with fail
 refine (dmul_over a a' n n' cap cap' m m' _ ((unhide H).kept hS.fr).num ((unhide H').kept hS.fr).num (unhide HO)).mono ?_
 rintro e w5 ⟨rfl,hb5⟩
 replace hS:=hS.kept hb5
 clear y1 y2 y3 y4 y5 y6 y7 y8 y9
 obtain ⟨⟨yba,ybb,ybc,-⟩,⟨ybd,ybe,ybf,-⟩,⟨ybg,ybh,ybi,-⟩,-⟩:=hS.cells
 have hltw5_0:w.heap.size < w5.heap.size:=hS.lt 0 rfl
 have hltw5_1:w.heap.size+1 < w5.heap.size:=hS.lt 1 rfl
 have hltw5_2:w.heap.size+2 < w5.heap.size:=hS.lt 2 rfl
 have Q_:=hS.frozen (b:=w.heap.size+2) (cs:=#[.bool false,.slice none 0 0,.int .i64 0]) (t:=46) (by simp)
 have fz0:=Q_ 0
 have fz1:=Q_ 1
 have fz2:=Q_ 2
 clear Q_
 go_wp2
 have hB:=fun u0 u1 u2=>((hS.fr.setCell (p:=⟨w.heap.size+2,0,none⟩) (by simp <;> omega) u0).setCell (p:=⟨w.heap.size+2,1,none⟩) (by simp <;> omega) u1).setCell (p:=⟨w.heap.size+2,2,none⟩) (by simp <;> omega) u2
 exact bodyPost_ret (v:=.tuple #[.agg #[.bool false,.slice none 0 0,.int .i64 0],.int .i64 4]) (by simp [results,Tryz.results155,go_sem,ybg,ybh,ybi,hltw5_2]) rfl ⟨rfl,(hB _ _ _).alloc (hB _ _ _).size _⟩
def OkD (s:Bool) (m:Nat) (x:Int):Prop:=(m = 0∧s = false∧x = 0)∨(m % 2 = 1∧-1073741824≤x∧x≤1073741824)
def Sums (s:Bool) (m:Nat) (x:Int) (s':Bool) (m':Nat) (x':Int) (er:Int) (r:Bool) (v:Nat) (y:Int):Prop:=
 ∀ (W:World) (A:Option Addr) (N C:Nat) (A':Option Addr) (N' C':Nat),Num W A N m→Num W A' N' m'→Tb W →
  Calls Tryz.prog 152 #[.agg #[.bool s,.slice A N C,.int .i64 x],.agg #[.bool s',.slice A' N' C',.int .i64 x']] W fun e w'=>(∃ A N C,e = .returned (.tuple #[.agg #[.bool r,.slice A N C,.int .i64 y],.int .i64 er])∧Num w' A N v)∧Below W.heap.size W w'
theorem num_none (w:World):Num w none 0 0:=⟨[],rfl,Or.inl rfl,Pl.wf_nil,Pl.norm_nil,rfl,by omega⟩
theorem Sums.many {s:Bool} {m:Nat} {x:Int} {s':Bool} {m':Nat} {x':Int} (h:∀ (W:World) (A:Option Addr) (N C:Nat) (A':Option Addr) (N' C':Nat),Num W A N m→Num W A' N' m'→Tb W →
  Calls Tryz.prog 152 #[.agg #[.bool s,.slice A N C,.int .i64 x],.agg #[.bool s',.slice A' N' C',.int .i64 x']] W fun e w'=>e = .returned (.tuple #[.agg #[.bool false,.slice none 0 0,.int .i64 0],.int .i64 4])∧Below W.heap.size W w'):Sums s m x s' m' x' 4 false 0 0:=fun W A N C A' N' C' g g' hT=>by
 refine (h W A N C A' N' C' g g' hT).mono ?_
 rintro e w' ⟨rfl,hb⟩
 exact ⟨⟨none,0,0,rfl,num_none _⟩,hb⟩
theorem Sums.of {s:Bool} {m:Nat} {x:Int} {s':Bool} {m':Nat} {x' t:Int} {i j v:Nat} {r:Bool} (hm:m % 2 = 1∧-1073741824≤x∧x≤1073741824) (hm':m' % 2 = 1∧-1073741824≤x'∧x'≤1073741824) (ht:min x x' = t) (hi:x - t = (i:Int)) (hj:x' - t = (j:Int)) (hno:¬ Over (m * 2 ^ i)) (hno':¬ Over (m' * 2 ^ j))
  (hS:∀ (W:World) (A:Option Addr) (N C:Nat) (A':Option Addr) (N' C':Nat),Num W A N (m * 2 ^ i)→Num W A' N' (m' * 2 ^ j)→Calls Tryz.prog 159 #[.bool s,.agg #[.slice A N C],.bool s',.agg #[.slice A' N' C']] W fun e w'=>(∃ A N C,e = .returned (.tuple #[.bool r,.agg #[.slice A N C],.int .i64 0])∧Mine w' W.heap.size A N C v)∧Below W.heap.size W w') (hv:v < 4294967296 ^ Pl.top) :
  (v = 0∧Sums s m x s' m' x' 0 false 0 0)∨∃ z,0 < v∧Tz v z∧z < 524288∧((-1073741824≤t+z∧t+z≤1073741824∧Sums s m x s' m' x' 0 r (v / 2 ^ z) (t+(z:Int)))∨((1073741824 < t+z∨t+z < -1073741824)∧Sums s m x s' m' x' 4 false 0 0)):=by
 have hp:∀ {W:World} {A:Option Addr} {N:Nat},Num W A N m→0 < N:=fun g=>by have:=g.zero; omega
 have hp':∀ {W:World} {A:Option Addr} {N:Nat},Num W A N m'→0 < N:=fun g=>by have:=g.zero; omega
 rcases Nat.eq_zero_or_pos v with h0|h0
 ·subst h0
  refine Or.inl ⟨rfl,fun W A N C A' N' C' g g' _=>?_⟩
  refine (Add_zero s A N C m x s' A' N' C' m' x' t i j r W ⟨g,Or.inr hm⟩ ⟨g',Or.inr hm'⟩ (hp g) (hp' g') ht hi hj (by omega) (by omega) hno hno' (hide hS)).mono ?_
  rintro e w' ⟨rfl,hb⟩
  exact ⟨⟨none,0,0,rfl,num_none _⟩,hb⟩
 ·have h2:4294967296 ^ Pl.top = 2 ^ (32 * Pl.top):=by rw [Nat.pow_mul]
  rw [h2] at hv
  obtain ⟨z,hz,hz2⟩:=tz_ex h0 hv
  have hz3:z < 524288:=by have:=Pl.top_eq; omega
  refine Or.inr ⟨z,h0,hz,hz3,?_⟩
  by_cases hx:-1073741824≤t+z∧t+z≤1073741824
  ·refine Or.inl ⟨hx.1,hx.2,fun W A N C A' N' C' g g' hT=>?_⟩
   refine (Add_num s A N C m x s' A' N' C' m' x' t i j v z r W ⟨g,Or.inr hm⟩ ⟨g',Or.inr hm'⟩ (hp g) (hp' g') hT ht hi hj (by omega) (by omega) hno hno' h0 hz hz3 hx (hide hS)).mono ?_
   rintro e w' ⟨⟨A,N,C,rfl,h1⟩,hb⟩
   exact ⟨⟨A,N,C,rfl,h1.num⟩,hb⟩
  ·refine Or.inr ⟨by omega,Sums.many fun W A N C A' N' C' g g' hT=>?_⟩
   by_cases hx1:1073741824 < t+z
   ·exact Add_above s A N C m x s' A' N' C' m' x' t i j v z r W ⟨g,Or.inr hm⟩ ⟨g',Or.inr hm'⟩ (hp g) (hp' g') ht hi hj (by omega) (by omega) hno hno' hT h0 hz hz3 hx1 (hide hS)
   ·exact Add_below s A N C m x s' A' N' C' m' x' t i j v z r W ⟨g,Or.inr hm⟩ ⟨g',Or.inr hm'⟩ (hp g) (hp' g') ht hi hj (by omega) (by omega) hno hno' hT h0 hz hz3 (by omega) (hide hS)
theorem sv_zero (s:Bool):sv s 0 = 0:=by unfold sv; cases s <;> rfl
theorem mine_none (w:World) (base:Nat):Mine w base none 0 0 0:=⟨[],rfl,Or.inl ⟨rfl,rfl⟩,Pl.wf_nil,Pl.norm_nil,rfl,by omega⟩
def SumsM (s:Bool) (m:Nat) (x:Int) (s':Bool) (m':Nat) (x':Int) (er:Int) (r:Bool) (v:Nat) (y:Int):Prop:=
 ∀ (W:World) (A:Option Addr) (N C:Nat) (A':Option Addr) (N' C':Nat),Num W A N m→Num W A' N' m'→Tb W →
  Calls Tryz.prog 152 #[.agg #[.bool s,.slice A N C,.int .i64 x],.agg #[.bool s',.slice A' N' C',.int .i64 x']] W fun e w'=>(∃ A N C,e = .returned (.tuple #[.agg #[.bool r,.slice A N C,.int .i64 y],.int .i64 er])∧Mine w' W.heap.size A N C v)∧Below W.heap.size W w'
theorem SumsM.many {s:Bool} {m:Nat} {x:Int} {s':Bool} {m':Nat} {x':Int} (h:∀ (W:World) (A:Option Addr) (N C:Nat) (A':Option Addr) (N' C':Nat),Num W A N m→Num W A' N' m'→Tb W →
  Calls Tryz.prog 152 #[.agg #[.bool s,.slice A N C,.int .i64 x],.agg #[.bool s',.slice A' N' C',.int .i64 x']] W fun e w'=>e = .returned (.tuple #[.agg #[.bool false,.slice none 0 0,.int .i64 0],.int .i64 4])∧Below W.heap.size W w'):SumsM s m x s' m' x' 4 false 0 0:=fun W A N C A' N' C' g g' hT=>by
 refine (h W A N C A' N' C' g g' hT).mono ?_
 rintro e w' ⟨rfl,hb⟩
 exact ⟨⟨none,0,0,rfl,mine_none _ _⟩,hb⟩
theorem SumsM.of {s:Bool} {m:Nat} {x:Int} {s':Bool} {m':Nat} {x' t:Int} {i j v:Nat} {r:Bool} (hm:m % 2 = 1∧-1073741824≤x∧x≤1073741824) (hm':m' % 2 = 1∧-1073741824≤x'∧x'≤1073741824) (ht:min x x' = t) (hi:x - t = (i:Int)) (hj:x' - t = (j:Int)) (hno:¬ Over (m * 2 ^ i)) (hno':¬ Over (m' * 2 ^ j))
  (hS:∀ (W:World) (A:Option Addr) (N C:Nat) (A':Option Addr) (N' C':Nat),Num W A N (m * 2 ^ i)→Num W A' N' (m' * 2 ^ j)→Calls Tryz.prog 159 #[.bool s,.agg #[.slice A N C],.bool s',.agg #[.slice A' N' C']] W fun e w'=>(∃ A N C,e = .returned (.tuple #[.bool r,.agg #[.slice A N C],.int .i64 0])∧Mine w' W.heap.size A N C v)∧Below W.heap.size W w') (hv:v < 4294967296 ^ Pl.top) :
  (v = 0∧SumsM s m x s' m' x' 0 false 0 0)∨∃ z,0 < v∧Tz v z∧z < 524288∧((-1073741824≤t+z∧t+z≤1073741824∧SumsM s m x s' m' x' 0 r (v / 2 ^ z) (t+(z:Int)))∨((1073741824 < t+z∨t+z < -1073741824)∧SumsM s m x s' m' x' 4 false 0 0)):=by
 have hp:∀ {W:World} {A:Option Addr} {N:Nat},Num W A N m→0 < N:=fun g=>by have:=g.zero; omega
 have hp':∀ {W:World} {A:Option Addr} {N:Nat},Num W A N m'→0 < N:=fun g=>by have:=g.zero; omega
 rcases Nat.eq_zero_or_pos v with h0|h0
 ·subst h0
  refine Or.inl ⟨rfl,fun W A N C A' N' C' g g' _=>?_⟩
  refine (Add_zero s A N C m x s' A' N' C' m' x' t i j r W ⟨g,Or.inr hm⟩ ⟨g',Or.inr hm'⟩ (hp g) (hp' g') ht hi hj (by omega) (by omega) hno hno' (hide hS)).mono ?_
  rintro e w' ⟨rfl,hb⟩
  exact ⟨⟨none,0,0,rfl,mine_none _ _⟩,hb⟩
 ·have h2:4294967296 ^ Pl.top = 2 ^ (32 * Pl.top):=by rw [Nat.pow_mul]
  rw [h2] at hv
  obtain ⟨z,hz,hz2⟩:=tz_ex h0 hv
  have hz3:z < 524288:=by have:=Pl.top_eq; omega
  refine Or.inr ⟨z,h0,hz,hz3,?_⟩
  by_cases hx:-1073741824≤t+z∧t+z≤1073741824
  ·refine Or.inl ⟨hx.1,hx.2,fun W A N C A' N' C' g g' hT=>?_⟩
   refine (Add_num s A N C m x s' A' N' C' m' x' t i j v z r W ⟨g,Or.inr hm⟩ ⟨g',Or.inr hm'⟩ (hp g) (hp' g') hT ht hi hj (by omega) (by omega) hno hno' h0 hz hz3 hx (hide hS)).mono ?_
   rintro e w' ⟨⟨A,N,C,rfl,h1⟩,hb⟩
   exact ⟨⟨A,N,C,rfl,h1⟩,hb⟩
  ·refine Or.inr ⟨by omega,SumsM.many fun W A N C A' N' C' g g' hT=>?_⟩
   by_cases hx1:1073741824 < t+z
   ·exact Add_above s A N C m x s' A' N' C' m' x' t i j v z r W ⟨g,Or.inr hm⟩ ⟨g',Or.inr hm'⟩ (hp g) (hp' g') ht hi hj (by omega) (by omega) hno hno' hT h0 hz hz3 hx1 (hide hS)
   ·exact Add_below s A N C m x s' A' N' C' m' x' t i j v z r W ⟨g,Or.inr hm⟩ ⟨g',Or.inr hm'⟩ (hp g) (hp' g') ht hi hj (by omega) (by omega) hno hno' hT h0 hz hz3 (by omega) (hide hS)
def ProdsM (s:Bool) (m:Nat) (x:Int) (s':Bool) (m':Nat) (x':Int) (er:Int) (r:Bool) (v:Nat) (y:Int):Prop:=
 ∀ (W:World) (A:Option Addr) (N C:Nat) (A':Option Addr) (N' C':Nat),Num W A N m→Num W A' N' m' →
  Calls Tryz.prog 155 #[.agg #[.bool s,.slice A N C,.int .i64 x],.agg #[.bool s',.slice A' N' C',.int .i64 x']] W fun e w'=>(∃ A N C,e = .returned (.tuple #[.agg #[.bool r,.slice A N C,.int .i64 y],.int .i64 er])∧Mine w' W.heap.size A N C v)∧Below W.heap.size W w'
theorem ProdsM.plain {s:Bool} {m:Nat} {x:Int} {s':Bool} {m':Nat} {x' er:Int} (h:∀ (W:World) (A:Option Addr) (N C:Nat) (A':Option Addr) (N' C':Nat),Num W A N m→Num W A' N' m' →
  Calls Tryz.prog 155 #[.agg #[.bool s,.slice A N C,.int .i64 x],.agg #[.bool s',.slice A' N' C',.int .i64 x']] W fun e w'=>e = .returned (.tuple #[.agg #[.bool false,.slice none 0 0,.int .i64 0],.int .i64 er])∧Below W.heap.size W w'):ProdsM s m x s' m' x' er false 0 0:=fun W A N C A' N' C' g g'=>by
 refine (h W A N C A' N' C' g g').mono ?_
 rintro e w' ⟨rfl,hb⟩
 exact ⟨⟨none,0,0,rfl,mine_none _ _⟩,hb⟩
theorem mul_oneM {s:Bool} {m:Nat} {x:Int} {s':Bool} {m':Nat} {x':Int} (hA:OkD s m x) (hB:OkD s' m' x') :
  ((m = 0∨m' = 0)∧ProdsM s m x s' m' x' 0 false 0 0)∨((0 < m∧0 < m')∧(((x+x' < -1073741824∨1073741824 < x+x'∨Over (m * m'))∧ProdsM s m x s' m' x' 4 false 0 0)∨(¬ (x+x' < -1073741824∨1073741824 < x+x'∨Over (m * m'))∧ProdsM s m x s' m' x' 0 (s != s') (m * m') (x+x')))):=by
 have hp:∀ {W:World} {A:Option Addr} {N m:Nat},Num W A N m→0 < m→0 < N:=fun g h=>by have:=g.zero; omega
 rcases Nat.eq_zero_or_pos m with h0|h0
 ·refine Or.inl ⟨Or.inl h0,ProdsM.plain fun W A N C A' N' C' g g'=>?_⟩
  obtain rfl:=g.zero.2 h0
  exact Mul_left s A C m x s' A' N' C' m' x' W ⟨g,hA⟩ ⟨g',hB⟩
 rcases Nat.eq_zero_or_pos m' with h1|h1
 ·refine Or.inl ⟨Or.inr h1,ProdsM.plain fun W A N C A' N' C' g g'=>?_⟩
  obtain rfl:=g'.zero.2 h1
  exact Mul_right s A N C m x s' A' C' m' x' W ⟨g,hA⟩ ⟨g',hB⟩ (hp g h0)
 refine Or.inr ⟨⟨h0,h1⟩,?_⟩
 by_cases hc:x+x' < -1073741824∨1073741824 < x+x'∨Over (m * m')
 ·refine Or.inl ⟨hc,ProdsM.plain fun W A N C A' N' C' g g'=>?_⟩
  by_cases c1:x+x' < -1073741824
  ·exact Mul_below s A N C m x s' A' N' C' m' x' W ⟨g,hA⟩ ⟨g',hB⟩ (hp g h0) (hp g' h1) c1
  by_cases c2:1073741824 < x+x'
  ·exact Mul_above s A N C m x s' A' N' C' m' x' W ⟨g,hA⟩ ⟨g',hB⟩ (hp g h0) (hp g' h1) c2
  ·exact Mul_over s A N C m x s' A' N' C' m' x' W ⟨g,hA⟩ ⟨g',hB⟩ (hp g h0) (hp g' h1) (by omega) (by
    rcases hc with h|h|h
    ·exact absurd h c1
    ·exact absurd h c2
    ·exact h)
 ·refine Or.inr ⟨hc,fun W A N C A' N' C' g g'=>?_⟩
  refine (Mul_ok s A N C m x s' A' N' C' m' x' W ⟨g,hA⟩ ⟨g',hB⟩ (hp g h0) (hp g' h1) (by omega) (fun h=>hc (Or.inr (Or.inr h)))).mono ?_
  rintro e w' ⟨⟨A,N,C,rfl,h2⟩,hb⟩
  exact ⟨⟨A,N,C,rfl,h2⟩,hb⟩
theorem lt_of_pow2M {v d K z:Nat} (h:2 ^ z≤v) (hv:v * 2 ^ d < 2 ^ K):z+d < K:=by
 have h1:2 ^ (z+d) < 2 ^ K:=by
  rw [Nat.pow_add]
  exact Nat.lt_of_le_of_lt (Nat.mul_le_mul_right _ h) hv
 exact (Nat.pow_lt_pow_iff_right (by decide)).1 h1
theorem Tz.leM {v z:Nat} (h:Tz v z):2 ^ z≤v:=by
 obtain ⟨q,rfl⟩:=h
 exact Nat.le_mul_of_pos_right _ (by omega)
theorem sv_leM {s s' r:Bool} {a b v:Nat} (h:sv r v = sv s a+sv s' b):v≤a+b:=by
 unfold sv at h
 cases s <;> cases s' <;> cases r <;> simp at h <;> omega
theorem add_in0M {s:Bool} {m:Nat} {x:Int} {s':Bool} {m':Nat} {x' t L:Int} {i j d v K:Nat} {r:Bool} (hm:m % 2 = 1∧-1073741824≤x∧x≤1073741824) (hm':m' % 2 = 1∧-1073741824≤x'∧x'≤1073741824) (ht:min x x' = t) (hi:x - t = (i:Int)) (hj:x' - t = (j:Int)) (hd:t - L = (d:Int)) (hL:-1073741824≤L) (hL0:L≤0) (hK:K≤500000) (hk:m * 2 ^ (x - L).toNat < 2 ^ K) (hk':m' * 2 ^ (x' - L).toNat < 2 ^ K)
  (hS:∀ (W:World) (A:Option Addr) (N C:Nat) (A':Option Addr) (N' C':Nat),Num W A N (m * 2 ^ i)→Num W A' N' (m' * 2 ^ j)→Calls Tryz.prog 159 #[.bool s,.agg #[.slice A N C],.bool s',.agg #[.slice A' N' C']] W fun e w'=>(∃ A N C,e = .returned (.tuple #[.bool r,.agg #[.slice A N C],.int .i64 0])∧Mine w' W.heap.size A N C v)∧Below W.heap.size W w') (hw:sv r v = sv s (m * 2 ^ i)+sv s' (m' * 2 ^ j)) :
  ∃ q v y,SumsM s m x s' m' x' 0 q v y∧OkD q v y∧L≤y∧v * 2 ^ (y - L).toNat < 2 ^ (K+1)∧sv q (v * 2 ^ (y - L).toNat) = sv s (m * 2 ^ (x - L).toNat)+sv s' (m' * 2 ^ (x' - L).toNat):=by
 have e1:(x - L).toNat = i+d:=by omega
 have e2:(x' - L).toNat = j+d:=by omega
 rw [e1,Nat.pow_add,← Nat.mul_assoc] at hk
 rw [e2,Nat.pow_add,← Nat.mul_assoc] at hk'
 have hd1:1≤2 ^ d:=pow_pos2 d
 have ha:m * 2 ^ i < 2 ^ K:=Nat.lt_of_le_of_lt (Nat.le_mul_of_pos_right _ hd1) hk
 have hb:m' * 2 ^ j < 2 ^ K:=Nat.lt_of_le_of_lt (Nat.le_mul_of_pos_right _ hd1) hk'
 have hle:=sv_leM hw
 have hvd:v * 2 ^ d < 2 ^ (K+1):=by
  have h1:v * 2 ^ d≤(m * 2 ^ i+m' * 2 ^ j) * 2 ^ d:=Nat.mul_le_mul_right _ hle
  rw [Nat.add_mul] at h1
  rw [Nat.pow_succ]
  omega
 have hv:v < 2 ^ (K+1):=Nat.lt_of_le_of_lt (Nat.le_mul_of_pos_right _ hd1) hvd
 have hvt:v < 4294967296 ^ Pl.top:=Nat.lt_of_not_le fun hle=>not_over hv (by omega) ⟨hle⟩
 have hsum:sv s (m * 2 ^ (x - L).toNat)+sv s' (m' * 2 ^ (x' - L).toNat) = sv r (v * 2 ^ d):=by
  rw [e1,e2,Nat.pow_add,Nat.pow_add,← Nat.mul_assoc,← Nat.mul_assoc,← sv_mul s (m * 2 ^ i),← sv_mul s' (m' * 2 ^ j),← sv_mul r v,← Int.add_mul,← hw]
 rcases SumsM.of hm hm' ht hi hj (not_over ha (by omega)) (not_over hb (by omega)) hS hvt with ⟨h0,P⟩|⟨z,h0,hz,hz2,⟨p1,p2,P⟩|⟨p1,P⟩⟩
 ·refine ⟨false,0,0,P,Or.inl ⟨rfl,rfl,rfl⟩,hL0,by rw [Nat.zero_mul]; exact pow_pos2 _,?_⟩
  rw [hsum,h0,Nat.zero_mul,Nat.zero_mul,sv_zero,sv_zero]
 ·have e3:(t+(z:Int) - L).toNat = z+d:=by omega
  have e4:v / 2 ^ z * 2 ^ (z+d) = v * 2 ^ d:=by rw [Nat.pow_add,← Nat.mul_assoc,hz.down.2]
  refine ⟨r,v / 2 ^ z,t+(z:Int),P,Or.inr ⟨hz.down.1,p1,p2⟩,by omega,?_,?_⟩
  ·rw [e3,e4]; exact hvd
  ·rw [e3,e4,hsum]
 ·have:=lt_of_pow2M hz.leM hvd
  omega
theorem OkD.oddM {s:Bool} {m:Nat} {x:Int} (h:OkD s m x) (h0:0 < m):m % 2 = 1∧-1073741824≤x∧x≤1073741824:=by
 rcases h with ⟨h,_⟩|h
 ·omega
 ·exact h
theorem add_inM {s:Bool} {m:Nat} {x:Int} {s':Bool} {m':Nat} {x':Int} (L:Int) (K:Nat) (hA:OkD s m x) (hB:OkD s' m' x') (hL:-1073741824≤L) (hL0:L≤0) (hK:K≤500000) (hx:L≤x) (hx':L≤x') (hk:m * 2 ^ (x - L).toNat < 2 ^ K) (hk':m' * 2 ^ (x' - L).toNat < 2 ^ K) :
  ∃ q v y,SumsM s m x s' m' x' 0 q v y∧OkD q v y∧L≤y∧v * 2 ^ (y - L).toNat < 2 ^ (K+1)∧sv q (v * 2 ^ (y - L).toNat) = sv s (m * 2 ^ (x - L).toNat)+sv s' (m' * 2 ^ (x' - L).toNat):=by
 have hup:∀ {a:Nat},a < 2 ^ K→a < 2 ^ (K+1):=fun h=>by rw [Nat.pow_succ]; omega
 rcases Nat.eq_zero_or_pos m with h0|h0
 ·refine ⟨s',m',x',fun W A N C A' N' C' g g' _=>?_,hB,hx',hup hk',by rw [h0,Nat.zero_mul,sv_zero,Int.zero_add]⟩
  obtain rfl:=g.zero.2 h0
  refine (Add_left _ A C _ _ _ A' N' C' _ _ W ⟨g,hA⟩ ⟨g',hB⟩).mono ?_
  rintro e w' ⟨⟨A,N,C,rfl,h1⟩,hb⟩
  exact ⟨⟨A,N,C,rfl,h1⟩,hb⟩
 rcases Nat.eq_zero_or_pos m' with h1|h1
 ·refine ⟨s,m,x,fun W A N C A' N' C' g g' _=>?_,hA,hx,hup hk,by rw [h1,Nat.zero_mul,sv_zero,Int.add_zero]⟩
  obtain rfl:=g'.zero.2 h1
  refine (Add_right _ A N C _ _ _ A' C' _ _ W ⟨g,hA⟩ ⟨g',hB⟩ (by have:=g.zero; omega)).mono ?_
  rintro e w' ⟨⟨A,N,C,rfl,h1⟩,hb⟩
  exact ⟨⟨A,N,C,rfl,h1⟩,hb⟩
 have a1:=hA.oddM h0
 have b1:=hB.oddM h1
 obtain ⟨t,ht⟩:∃ t,min x x' = t:=⟨_,rfl⟩
 obtain ⟨i,hi⟩:∃ i:Nat,x - t = (i:Int):=⟨(x - t).toNat,by omega⟩
 obtain ⟨j,hj⟩:∃ j:Nat,x' - t = (j:Int):=⟨(x' - t).toNat,by omega⟩
 obtain ⟨d,hd⟩:∃ d:Nat,t - L = (d:Int):=⟨(t - L).toNat,by omega⟩
 have e1:(x - L).toNat = i+d:=by omega
 have e2:(x' - L).toNat = j+d:=by omega
 have hd1:1≤2 ^ d:=pow_pos2 d
 have ha:m * 2 ^ i < 2 ^ K:=by
  rw [e1,Nat.pow_add,← Nat.mul_assoc] at hk
  exact Nat.lt_of_le_of_lt (Nat.le_mul_of_pos_right _ hd1) hk
 have hb:m' * 2 ^ j < 2 ^ K:=by
  rw [e2,Nat.pow_add,← Nat.mul_assoc] at hk'
  exact Nat.lt_of_le_of_lt (Nat.le_mul_of_pos_right _ hd1) hk'
 have hov:¬ Over (m * 2 ^ i+m' * 2 ^ j):=not_over (n:=K+1) (by rw [Nat.pow_succ]; omega) (by omega)
 by_cases hs:s = s'
 ·subst hs
  exact add_in0M (r:=s) a1 b1 ht hi hj hd hL hL0 hK hk hk' (fun W A N C A' N' C' g g'=>addS_same s A N C _ A' N' C' _ W g g' hov) (by unfold sv; cases s <;> simp <;> omega)
 ·rcases Nat.lt_or_ge (m * 2 ^ i) (m' * 2 ^ j) with hc|hc
  ·refine add_in0M (r:=s') (v:=m' * 2 ^ j - m * 2 ^ i) a1 b1 ht hi hj hd hL hL0 hK hk hk' (fun W A N C A' N' C' g g'=>?_) (by generalize m * 2 ^ i = u at *; generalize m' * 2 ^ j = u' at *; unfold sv; cases s <;> cases s' <;> simp at hs ⊢ <;> omega)
   cases s <;> cases s'
   ·exact absurd rfl hs
   ·exact addS_lt_f A N C _ A' N' C' _ W g g' hc
   ·exact addS_lt_t A N C _ A' N' C' _ W g g' hc
   ·exact absurd rfl hs
  ·refine add_in0M (r:=s) (v:=m * 2 ^ i - m' * 2 ^ j) a1 b1 ht hi hj hd hL hL0 hK hk hk' (fun W A N C A' N' C' g g'=>?_) (by generalize m * 2 ^ i = u at *; generalize m' * 2 ^ j = u' at *; unfold sv; cases s <;> cases s' <;> simp at hs ⊢ <;> omega)
   cases s <;> cases s'
   ·exact absurd rfl hs
   ·exact addS_ge_f A N C _ A' N' C' _ W g g' hc
   ·exact addS_ge_t A N C _ A' N' C' _ W g g' hc
   ·exact absurd rfl hs
theorem OkD.oneM {s:Bool} {m:Nat} {x:Int} {s':Bool} {m':Nat} {x' L:Int} (hA:OkD s m x) (hB:OkD s' m' x') (hx:L≤x) (hx':L≤x') (h:sv s (m * 2 ^ (x - L).toNat) = sv s' (m' * 2 ^ (x' - L).toNat)):s = s'∧m = m'∧x = x':=by
 have p:=pow_pos2 (x - L).toNat
 have p':=pow_pos2 (x' - L).toNat
 rcases hA with ⟨h0,h1,h2⟩|⟨h0,_⟩ <;> rcases hB with ⟨g0,g1,g2⟩|⟨g0,_⟩
 ·exact ⟨by rw [h1,g1],by omega,by omega⟩
 ·have q:0 < m' * 2 ^ (x' - L).toNat:=Nat.mul_pos (by omega) p'
  rw [h0,Nat.zero_mul,sv_zero] at h
  generalize m' * 2 ^ (x' - L).toNat = u' at *
  unfold sv at h; cases s' <;> simp at h <;> omega
 ·have q:0 < m * 2 ^ (x - L).toNat:=Nat.mul_pos (by omega) p
  rw [g0,Nat.zero_mul,sv_zero] at h
  generalize m * 2 ^ (x - L).toNat = u at *
  unfold sv at h; cases s <;> simp at h <;> omega
 ·have q:0 < m * 2 ^ (x - L).toNat:=Nat.mul_pos (by omega) p
  have q':0 < m' * 2 ^ (x' - L).toNat:=Nat.mul_pos (by omega) p'
  have e:s = s'∧m * 2 ^ (x - L).toNat = m' * 2 ^ (x' - L).toNat:=by
   generalize m * 2 ^ (x - L).toNat = u at *
   generalize m' * 2 ^ (x' - L).toNat = u' at *
   unfold sv at h; cases s <;> cases s' <;> simp at h ⊢ <;> omega
  have t1:Tz (m * 2 ^ (x - L).toNat) (x - L).toNat:=⟨m / 2,by rw [Nat.mul_comm]; congr 1; omega⟩
  have t2:Tz (m' * 2 ^ (x' - L).toNat) (x' - L).toNat:=⟨m' / 2,by rw [Nat.mul_comm]; congr 1; omega⟩
  rw [e.2] at t1
  have e3:=t1.uniq t2
  refine ⟨e.1,?_,by omega⟩
  have e4:=e.2
  rw [e3] at e4
  exact Nat.eq_of_mul_eq_mul_right p' e4
def Rn (w:World) (p k:Nat):Prop:=∃ cs t,w.heap[p]? = some (.cells cs t (0,0))∧cs[k]? = some (.int .i64 0)
theorem Rn.kept {w w':World} {p k:Nat} (h:Rn w p k) (hb:Below w.heap.size w w'):Rn w' p k:=by
 obtain ⟨cs,t,h1,h2⟩:=h
 exact ⟨cs,t,by rw [hb.block _ (block_lt h1)]; exact h1,h2⟩
theorem Rn.cell {w:World} {p k:Nat} (h:Rn w p k):w.cell? ⟨p,k,none⟩ = some (.int .i64 0)∧w.frozen? ⟨p,k,none⟩ = false:=by
 obtain ⟨cs,t,h1,h2⟩:=h
 exact ⟨by rw [cell_of_row w p k _ _ _ h1]; exact h2,frozen_of_row w p k _ _ h1⟩
def Vals (E F b:Int) (s:Bool) (m:Nat) (x:Int):Prop:=∀ W:World,Tb W→Calls Tryz.prog 57 #[.agg #[.int .i64 E,.int .i64 F],.int .u64 b] W fun e w'=>(∃ A N C,e = .returned (.tuple #[.agg #[.bool s,.slice A N C,.int .i64 x],.int .i64 0])∧Mine w' W.heap.size A N C m)∧Below W.heap.size W w'
end Go.Proofs.YtfimakkpdjppfaaGreatDoor
