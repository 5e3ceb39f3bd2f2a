/- Of what QuickRightRow stands on: QkFmt QkDec. -/
import Derived.Test.YtdekhacomggpgaaGreatDoorPaf
import Derived.Test.YtdekhacomggpgaaGreatDoorPat
import Derived.Test.YtdekhacomggpgaaGreatDoorPav
import Derived.Shelf.Strconv.Itoa3
import Derived.Lib.AppendIntMem
import Derived.Test.YtdekhacomggpgaaGreatDoorPao
namespace Go.Proofs.YtdekhacomggpgaaGreatDoor
open Go.RowKit Go.Sort Go.Shelf
open Go.RowKit Ieee
def Tpw (w : World) : Prop := Lib.TabIs Tryz.prog w "internal/strconv.uint64pow10" .u64 Lib.pow10Tab
theorem Tpw.kept {w w':World} (h:Tpw w) (hb:Below w.heap.size w w'):Tpw w':=Lib.tabBelow_of_tabIs h w' hb
def p64 (j:Nat):Nat:=[4607182418800017408,4621819117588971520,4636737291354636288,4652007308841189376,4666723172467343360,4681608360884174848,4696837146684686336,4711630319722168320,4726483295884279808,4741671816366391296,4756540486875873280,4771362005757984768,4786511204640096256,4801453603149578240,4816244402031689728,4831355200913801216,4846369599423283200,4861130398305394688,4876203697187506176,4891288408196988160,4906019910204099648,4921056587992461136,4936209963552724370].getD j 0
def p32 (j:Nat):Nat:=[1065353216,1092616192,1120403456,1148846080,1176256512,1203982336,1232348160,1259902592,1287568416,1315859240,1343554297].getD j 0
theorem p64_next:∀ j,j < 22→FloatKind.f64.format.mul (p64 j) 4621819117588971520 = some (p64 (j+1)):=of_decide_eq_true (by kernel_rfl)
theorem p32_next:∀ j,j < 10→FloatKind.f32.format.mul (p32 j) 1092616192 = some (p32 (j+1)):=of_decide_eq_true (by kernel_rfl)
theorem qp64 (m:Nat) (hm:m≤22) (W:World):Calls Tryz.prog 49 #[.int .i64 (m:Int)] W fun e W'=>e = .returned (.float .f64 (p64 m))∧Below W.heap.size W W':=
 qpow64 W m p64 hm (by kernel_rfl) fun j hj=>p64_next j (by omega)
theorem qp32 (m:Nat) (hm:m≤10) (W:World):Calls Tryz.prog 51 #[.int .i64 (m:Int)] W fun e W'=>e = .returned (.float .f32 (p32 m))∧Below W.heap.size W W':=
 qpow32 W m p32 (by omega) (by kernel_rfl) fun j hj=>p32_next j (by omega)
theorem qnum_val (s:ByteArray) (hl:s.size≤19) (hd:AllD s s.size) (W:World):Calls Tryz.prog 33 #[.string s] W fun e W'=>e = .returned (.tuple #[.int .u64 (valS s:Int),.bool true])∧Below W.heap.size W W':=by
 obtain ⟨h1,h2,h3⟩:=hd.digS
 have h:=qnum_ok W s (fun j=>48+(digs s)[j]?.getD 0) (fun j=>Pl.dval ((digs s).take j) 0) hl (fun j hj=>h3 j hj) (fun j hj=>by
  have:=h3 j hj; have:=hd j hj hj; omega) (by simp [Pl.dval]) (fun j hj=>by
  have:=dval_snoc (digs s) j (by omega); rw [this]; omega) (fun j hj=>by
  have:=dval_take_lt h2 j (by omega)
  have:(10:Nat) ^ j≤10 ^ 19:=Nat.pow_le_pow_right (by omega) (by omega)
  have:(10:Nat) ^ 19 < 18446744073709551616:=by decide
  omega)
 have e:(digs s).take (s.size - 0) = digs s:=List.take_of_length_le (by omega)
 rw [e] at h
 exact h
theorem ddig_q {s:ByteArray} (hm:s.size≤65536) (hd:AllD s s.size) (W:World):Calls Tryz.prog 19 #[.string s] W fun e W'=>e = .returned (.bool true)∧Below W.heap.size W W':=
 (allDigits_any s W hm).mono fun e W' ⟨h,hb⟩=>⟨by
  rcases h with ⟨h,_⟩|⟨_,h⟩
  ·exact h
  ·exact absurd hd h,hb⟩
structure Qd (s:ByteArray) (x:Int) (n:Nat):Prop where
 sz:s.size≤19
 ok:AllD s s.size
 val:valS s = n
 chk:∀ (g:Bool) (W:World),Calls Tryz.prog 6 #[.agg #[.bool g,.string s,.int .i64 x]] W fun en W'=>en = .returned (.int .i64 0)∧Below W.heap.size W W'
def fl64 (n:Nat) (x:Int):Option Nat:=if x < 0 then FloatKind.f64.format.div (floatOfInt .f64 (n:Int)) (p64 x.natAbs) else FloatKind.f64.format.mul (floatOfInt .f64 (n:Int)) (p64 x.natAbs)
def fl32 (n:Nat) (x:Int):Option Nat:=if x < 0 then FloatKind.f32.format.div (floatOfInt .f32 (n:Int)) (p32 x.natAbs) else FloatKind.f32.format.mul (floatOfInt .f32 (n:Int)) (p32 x.natAbs)
theorem fac64 {s:ByteArray} {x:Int} {n:Nat} (h:Qd s x n) (hn:n≤9007199254740992) (h0:-22≤x) (h1:x≤22) (g:Bool) (W:World):Calls Tryz.prog 31 #[.agg #[.int .u64 9007199254740992,.int .i64 22],.agg #[.bool g,.string s,.int .i64 x]] W fun e W'=>e = .returned (.tuple #[.int .u64 (n:Int),.int .i64 x,.bool true])∧Below W.heap.size W W':=by
 have hv:=h.val
 subst hv
 exact qfac_s W 9007199254740992 22 g s x (valS s) (valS s) true (by omega) h0 h1 (hide (h.chk g)) (hide (qnum_val s h.sz h.ok)) (hide fun W=>qrai_0t W 9007199254740992 22 (valS s) hn)
theorem dbl64 {s:ByteArray} {x:Int} {n z:Nat} (h:Qd s x n) (hn:n≤9007199254740992) (h0:-22≤x) (h1:x≤22) (hz:fl64 n x = some z) (g:Bool) (W:World):Calls Tryz.prog 8 #[.agg #[.bool g,.string s,.int .i64 x]] W fun e W'=>e = .returned (.tuple #[.float .f64 (if g then Op.negFloat .f64 z else z),.bool true])∧Below W.heap.size W W':=by
 refine qdouble W g s x _ true (hide fun W=>?_)
 have hf:=fac64 h hn h0 h1 g
 unfold fl64 at hz
 rcases Int.lt_or_le x 0 with hx|hx
 ·rw [if_pos hx] at hz
  obtain ⟨m,rfl⟩:∃ m:Nat,x = -(m:Int):=⟨x.natAbs,by omega⟩
  have e:(-(m:Int)).natAbs = m:=by omega
  rw [e] at hz
  cases g
  ·exact qnst64_qf W s _ n m (p64 m) z (by omega) (hide hf) (hide (qp64 m (by omega))) hz
  ·exact qnst64_qt W s _ n m (p64 m) z (by omega) (hide hf) (hide (qp64 m (by omega))) hz
 ·rw [if_neg (by omega)] at hz
  obtain ⟨m,rfl⟩:∃ m:Nat,x = (m:Int):=⟨x.natAbs,by omega⟩
  have e:((m:Int)).natAbs = m:=by omega
  rw [e] at hz
  cases g
  ·exact qnst64_pf W s _ n m (p64 m) z (by omega) (hide hf) (hide (qp64 m (by omega))) hz
  ·exact qnst64_pt W s _ n m (p64 m) z (by omega) (hide hf) (hide (qp64 m (by omega))) hz
theorem fac32 {s:ByteArray} {x:Int} {n:Nat} (h:Qd s x n) (hn:n≤16777216) (h0:-10≤x) (h1:x≤10) (g:Bool) (W:World):Calls Tryz.prog 31 #[.agg #[.int .u64 16777216,.int .i64 10],.agg #[.bool g,.string s,.int .i64 x]] W fun e W'=>e = .returned (.tuple #[.int .u64 (n:Int),.int .i64 x,.bool true])∧Below W.heap.size W W':=by
 have hv:=h.val
 subst hv
 exact qfac_s W 16777216 10 g s x (valS s) (valS s) true (by omega) h0 h1 (hide (h.chk g)) (hide (qnum_val s h.sz h.ok)) (hide fun W=>qrai_0t W 16777216 10 (valS s) hn)
theorem dbl32 {s:ByteArray} {x:Int} {n z:Nat} (h:Qd s x n) (hn:n≤16777216) (h0:-10≤x) (h1:x≤10) (hz:fl32 n x = some z) (g:Bool) (W:World):Calls Tryz.prog 9 #[.agg #[.bool g,.string s,.int .i64 x]] W fun e W'=>e = .returned (.tuple #[.float .f32 (if g then Op.negFloat .f32 z else z),.bool true])∧Below W.heap.size W W':=by
 refine qsingle W g s x _ true (hide fun W=>?_)
 have hf:=fac32 h hn h0 h1 g
 unfold fl32 at hz
 rcases Int.lt_or_le x 0 with hx|hx
 ·rw [if_pos hx] at hz
  obtain ⟨m,rfl⟩:∃ m:Nat,x = -(m:Int):=⟨x.natAbs,by omega⟩
  have e:(-(m:Int)).natAbs = m:=by omega
  rw [e] at hz
  cases g
  ·exact qnst32_qf W s _ n m (p32 m) z (by omega) (hide hf) (hide (qp32 m (by omega))) hz
  ·exact qnst32_qt W s _ n m (p32 m) z (by omega) (hide hf) (hide (qp32 m (by omega))) hz
 ·rw [if_neg (by omega)] at hz
  obtain ⟨m,rfl⟩:∃ m:Nat,x = (m:Int):=⟨x.natAbs,by omega⟩
  have e:((m:Int)).natAbs = m:=by omega
  rw [e] at hz
  cases g
  ·exact qnst32_pf W s _ n m (p32 m) z (by omega) (hide hf) (hide (qp32 m (by omega))) hz
  ·exact qnst32_pt W s _ n m (p32 m) z (by omega) (hide hf) (hide (qp32 m (by omega))) hz
theorem fits_in {s:ByteArray} {x:Int} {n:Nat} (h:Qd s x n) (hn:n≤9007199254740992) (h0:-22≤x) (h1:x≤22) (g:Bool) (W:World):Calls Tryz.prog 11 #[.agg #[.bool g,.string s,.int .i64 x]] W fun e W'=>e = .returned (.bool true)∧Below W.heap.size W W':=
 qfits W g s x _ _ true (hide (fac64 h hn h0 h1 g))
end Go.Proofs.YtdekhacomggpgaaGreatDoor
