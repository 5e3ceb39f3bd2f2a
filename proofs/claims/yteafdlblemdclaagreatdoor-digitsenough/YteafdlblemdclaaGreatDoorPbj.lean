/- Of what DigitsEnoughRow stands on: ExOf NrAl NrCall NrFin. -/
import Derived.Test.YteafdlblemdclaaGreatDoorPbh
import Derived.Test.YteafdlblemdclaaGreatDoorPba
import Derived.Test.YteafdlblemdclaaGreatDoorPbb
import Derived.Test.YteafdlblemdclaaGreatDoorPaw
import Derived.Test.YteafdlblemdclaaGreatDoorPab
import Derived.ChangeKeysEq
import Derived.Test.YteafdlblemdclaaGreatDoorPbc
import Derived.Test.YteafdlblemdclaaGreatDoorPad
namespace Go.Proofs.YteafdlblemdclaaGreatDoor
open Go.RowKit
set_option maxHeartbeats 400000
theorem rno_no (a:Option Addr) (n cap:Nat) (w:World) (hn:0 < n):Calls Tryz.prog 72 #[.agg #[.slice a n cap]] w fun en w'=>en = .returned (.bool false)∧Below w.heap.size w w':=by
 have:=nought_any a n cap w
 rw [decide_eq_false (by omega)] at this
 exact this
theorem one_yes (a:Option Addr) (n cap m:Nat) (w:World) (h:Num w a n m) (hm:m = 1):Calls Tryz.prog 150 #[.agg #[.slice a n cap]] w fun en w'=>en = .returned (.bool true)∧Below w.heap.size w w':=by
 have:=isOne_any a n cap m w h
 rw [decide_eq_true hm] at this
 exact this
theorem rk_ok_f (a:Option Addr) (n cap m:Nat) (a':Option Addr) (n' cap' m':Nat) (w:World) (hn':0 < n')  (h:Num w a n m) (h':Num w a' n' m') (hg:Nat.gcd m m' = 1) :
  Calls Tryz.prog 115 #[.agg #[.bool false,.slice a n cap,.slice a' n' cap']] w fun e w'=>e = .returned (.int .i64 0)∧Below w.heap.size w w':=by
 have H:=hide h
 have H':=hide h'
 have HG:=hide hg
 clear h h' hg
 go_enter Tryz.func115,Tryz.ntmps115
 go_wp2_with fail
 refine (rno_no a' n' cap' _ hn').mono ?_
 rintro e w1 ⟨rfl,hb1⟩
 have hS:=(Fs.one w _ _).kept hb1
 obtain ⟨⟨ya,yb,yc,-⟩,-⟩:=hS.cells
 go_wp2_with fail
 refine (gcd_any a a' n n' cap cap' m m' _ ((unhide H).kept hS.fr) ((unhide H').kept hS.fr)).mono ?_
 rintro e w2 ⟨⟨A1,N1,C1,rfl,f1⟩,hb2⟩
 replace hS:=hS.kept hb2
 clear ya yb yc
 obtain ⟨⟨yd,ye,yf,-⟩,-⟩:=hS.cells
 have G1:=hide f1.num
 clear f1
 have hltw2_0:w.heap.size < w2.heap.size:=hS.lt 0 rfl
 replace hS:=hS.alloc #[.slice A1 N1 C1] 28
 replace G1:=hide ((unhide G1).alloc (.cells #[.slice A1 N1 C1] 28))
 go_wp2_with fail
 refine (one_yes A1 N1 C1 _ _ (unhide G1) (unhide HG)).mono ?_
 rintro e w3 ⟨rfl,hb3⟩
 replace hS:=hS.kept hb3
 clear yd ye yf
 obtain ⟨⟨yg,-⟩,⟨yh,yi,yj,-⟩,-⟩:=hS.cells
 go_wp2
 go_ret
 exact ⟨rfl,hS.fr⟩
theorem rk_ok_t (a:Option Addr) (n cap m:Nat) (a':Option Addr) (n' cap' m':Nat) (w:World) (hn':0 < n')  (hn:0 < n) (h:Num w a n m) (h':Num w a' n' m') (hg:Nat.gcd m m' = 1) :
  Calls Tryz.prog 115 #[.agg #[.bool true,.slice a n cap,.slice a' n' cap']] w fun e w'=>e = .returned (.int .i64 0)∧Below w.heap.size w w':=by
 have H:=hide h
 have H':=hide h'
 have HG:=hide hg
 clear h h' hg
 go_enter Tryz.func115,Tryz.ntmps115
 go_wp2_with fail
 refine (rno_no a' n' cap' _ hn').mono ?_
 rintro e w1 ⟨rfl,hb1⟩
 have hS:=(Fs.one w _ _).kept hb1
 obtain ⟨⟨ya,yb,yc,-⟩,-⟩:=hS.cells
 go_wp2_with fail
 refine (rno_no a n cap _ hn).mono ?_
 rintro e w2 ⟨rfl,hb2⟩
 replace hS:=hS.kept hb2
 clear ya yb yc
 obtain ⟨⟨yd,ye,yf,-⟩,-⟩:=hS.cells
 go_wp2_with fail
 refine (gcd_any a a' n n' cap cap' m m' _ ((unhide H).kept hS.fr) ((unhide H').kept hS.fr)).mono ?_
 rintro e w3 ⟨⟨A1,N1,C1,rfl,f1⟩,hb3⟩
 replace hS:=hS.kept hb3
 clear yd ye yf
 obtain ⟨⟨yg,yh,yi,-⟩,-⟩:=hS.cells
 have G1:=hide f1.num
 clear f1
 have hltw3_0:w.heap.size < w3.heap.size:=hS.lt 0 rfl
 replace hS:=hS.alloc #[.slice A1 N1 C1] 28
 replace G1:=hide ((unhide G1).alloc (.cells #[.slice A1 N1 C1] 28))
 go_wp2_with fail
 refine (one_yes A1 N1 C1 _ _ (unhide G1) (unhide HG)).mono ?_
 rintro e w4 ⟨rfl,hb4⟩
 replace hS:=hS.kept hb4
 clear yg yh yi
 obtain ⟨⟨yj,-⟩,⟨yk,yl,ym,-⟩,-⟩:=hS.cells
 go_wp2
 go_ret
 exact ⟨rfl,hS.fr⟩
theorem AlN.but {bs':List En} {S0 n:Nat} {v:Value} {t:TypeId} (h:AlN bs' S0 v t n) {g:Nat} (hne:v≠.pointer (some ⟨g,0,none⟩)) (y:En):AlN (y :: bs'.filter (fun y=>y.b≠g)) S0 v t n:=by
 obtain ⟨g',cs,h1,h2,h3,h4⟩:=h
 exact ⟨g',cs,h1,h2,h3,List.mem_cons_of_mem _ (List.mem_filter.2 ⟨h4,by simp only [ne_eq,decide_not,Bool.not_eq_eq_eq_not,Bool.not_true,decide_eq_false_iff_not]; intro e; exact hne (by rw [h1,e])⟩)⟩
theorem StN.but {bs':List En} {S0:Nat} {v:Value} {cs:Array Value} {t:TypeId} (h:StN bs' S0 v cs t) {g:Nat} (hne:v≠.pointer (some ⟨g,0,none⟩)) (y:En):StN (y :: bs'.filter (fun y=>y.b≠g)) S0 v cs t:=by
 obtain ⟨g',h1,h2,h4⟩:=h
 exact ⟨g',h1,h2,List.mem_cons_of_mem _ (List.mem_filter.2 ⟨h4,by simp only [ne_eq,decide_not,Bool.not_eq_eq_eq_not,Bool.not_true,decide_eq_false_iff_not]; intro e; exact hne (by rw [h1,e])⟩)⟩
theorem StN.cons {bs':List En} {S0:Nat} {v:Value} {cs:Array Value} {t:TypeId} (h:StN bs' S0 v cs t) (y:En):StN (y :: bs') S0 v cs t:=by
 obtain ⟨g,h1,h2,h4⟩:=h
 exact ⟨g,h1,h2,List.mem_cons_of_mem _ h4⟩
theorem AlN.ne {W w0:World} {k:Option (Nat×Int)} {ms:Ms} {os:Os} {bs':List En} {S0 n:Nat} {v:Value} {t:TypeId} (h:AlN bs' S0 v t n) (hs:Rs w0 W k bs' ms os):v≠.pointer (some ⟨W.heap.size,0,none⟩):=by
 obtain ⟨g,s,h1,h2,h3,h4⟩:=h
 have:=block_lt (hs.bx _ h4).1
 rw [h1]
 intro e
 injection e with e
 injection e with e
 injection e with e
 simp only at this
 omega
structure Fm (E F S I:Nat):Prop where
 fo:Fo E F
 hS:S = 2 ^ (F+E)
 hI:I = (2 ^ E - 1) * 2 ^ F
theorem Fm.top {E F S I:Nat} (h:Fm E F S I):I+2 ^ F = S:=by
 have h1:=h.hS
 have h2:=h.hI
 have h3:=pow_pos2 E
 have h4:(2 ^ E - 1) * 2 ^ F+1 * 2 ^ F = 2 ^ E * 2 ^ F:=by rw [← Nat.add_mul,Nat.sub_add_cancel h3]
 rw [Nat.add_comm,Nat.pow_add] at h1
 omega
theorem Fm.lt {E F S I:Nat} (h:Fm E F S I):I < S:=by
 have:=h.top
 have:=pow_pos2 F
 omega
theorem Fm.bt {E F S I b:Nat} (h:Fm E F S I) (hb:b < 2 * S):b < 2 ^ (F+E+1):=by rw [Nat.pow_succ,Nat.mul_comm,← h.hS]; exact hb
theorem Fm.pos {E F S I:Nat} (h:Fm E F S I):0 < S:=by have:=h.lt; omega
theorem mine_caps {w:World} {B:Nat} {a:Option Addr} {n c m:Nat} (h:Mine w B a n c m):n≤c∧c≤9223372036854775807:=by
 obtain ⟨xs,hn,ho,_⟩:=h
 obtain ⟨a',c',e,h1,h2,_⟩:=ho.lim
 cases e
 exact ⟨by omega,h2⟩
theorem vals_zero {E F B b:Nat} {s:Bool} (h0:Fo E F) (HB:Hid (B = 2 ^ (E - 1) - 1)) (hB:Bt E F b s 0 0):Vals E F b false 0 0:=fun W _=>by
 refine (Value_zero E F B b s W h0 HB hB).mono ?_
 rintro e w' ⟨rfl,hb⟩
 exact ⟨⟨none,0,0,rfl,mine_none _ _⟩,hb⟩
theorem vals_wo {E F B b ex fr M z:Nat} {s:Bool} {xe:Int} (h0:Fo E F) (HB:Hid (B = 2 ^ (E - 1) - 1)) (hB:Bt E F b s ex fr) (hW:Wo E F B ex fr M z xe):Vals E F b s (M / 2 ^ z) (xe+(z:Int)):=fun W hT=>
 Value_wo E F B b ex fr s M z xe W h0 HB hB hW hT
end Go.Proofs.YteafdlblemdclaaGreatDoor
