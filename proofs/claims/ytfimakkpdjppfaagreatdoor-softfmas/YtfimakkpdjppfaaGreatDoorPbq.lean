/- Of what SoftFmasRow stands on: SkAdd SkBoth SkSums SkMul SkFma SkProd SkSumG SkTimes. -/
import Derived.Test.YtfimakkpdjppfaaGreatDoorPbl
import Derived.Test.YtfimakkpdjppfaaGreatDoorPbi
import Derived.Test.YtfimakkpdjppfaaGreatDoorPbm
import Derived.Test.YtfimakkpdjppfaaGreatDoorPbk
import Derived.Test.YtfimakkpdjppfaaGreatDoorPbp
import Derived.Test.YtfimakkpdjppfaaGreatDoorPbf
namespace Go.Proofs.YtfimakkpdjppfaaGreatDoor
open Go.RowKit
set_option maxHeartbeats 400000
theorem mt_none (v : Value) (w : World) : (method 301 65 v "numeral/soft.plus").run Tryz.prog w = .ok (116, v) w := by kernel_rfl
theorem mt_inf (v : Value) (w : World) : (method 301 113 v "numeral/soft.plus").run Tryz.prog w = .ok (126, v) w := by kernel_rfl
theorem mt_nou (v : Value) (w : World) : (method 301 114 v "numeral/soft.plus").run Tryz.prog w = .ok (137, v) w := by kernel_rfl
theorem mt_num (v : Value) (w : World) : (method 301 116 v "numeral/soft.plus").run Tryz.prog w = .ok (147, v) w := by kernel_rfl
theorem mr_none (v : Value) (w : World) : (method 301 65 v "numeral/soft.rounded").run Tryz.prog w = .ok (118, v) w := by kernel_rfl
theorem mr_inf (v : Value) (w : World) : (method 301 113 v "numeral/soft.rounded").run Tryz.prog w = .ok (128, v) w := by kernel_rfl
theorem mr_nou (v : Value) (w : World) : (method 301 114 v "numeral/soft.rounded").run Tryz.prog w = .ok (139, v) w := by kernel_rfl
theorem mr_num (v : Value) (w : World) : (method 301 116 v "numeral/soft.rounded").run Tryz.prog w = .ok (149, v) w := by kernel_rfl
theorem en_pnone (args:Array Value) (w:World):(callFunc 116 args).run Tryz.prog w = .ok (.enter 116 args) w:=enter7 Tryz.func116 (by kernel_rfl) (by kernel_rfl) args w
theorem en_pinf (args:Array Value) (w:World):(callFunc 126 args).run Tryz.prog w = .ok (.enter 126 args) w:=enter7 Tryz.func126 (by kernel_rfl) (by kernel_rfl) args w
theorem en_pnou (args:Array Value) (w:World):(callFunc 137 args).run Tryz.prog w = .ok (.enter 137 args) w:=enter7 Tryz.func137 (by kernel_rfl) (by kernel_rfl) args w
theorem en_pnum (args:Array Value) (w:World):(callFunc 147 args).run Tryz.prog w = .ok (.enter 147 args) w:=enter7 Tryz.func147 (by kernel_rfl) (by kernel_rfl) args w
theorem en_rnone (args:Array Value) (w:World):(callFunc 118 args).run Tryz.prog w = .ok (.enter 118 args) w:=enter7 Tryz.func118 (by kernel_rfl) (by kernel_rfl) args w
theorem en_rinf (args:Array Value) (w:World):(callFunc 128 args).run Tryz.prog w = .ok (.enter 128 args) w:=enter7 Tryz.func128 (by kernel_rfl) (by kernel_rfl) args w
theorem en_rnou (args:Array Value) (w:World):(callFunc 139 args).run Tryz.prog w = .ok (.enter 139 args) w:=enter7 Tryz.func139 (by kernel_rfl) (by kernel_rfl) args w
theorem en_rnum (args:Array Value) (w:World):(callFunc 149 args).run Tryz.prog w = .ok (.enter 149 args) w:=enter7 Tryz.func149 (by kernel_rfl) (by kernel_rfl) args w
theorem Kr.ok {k:Kd} {g n q i s:Bool} {m:Nat} {x:Int} (h:Kr k g n q i s m x):OkD s m x∧-2048≤x∧m * 2 ^ (x - -2048).toNat < 2 ^ 3100:=by
 cases h with
 | num g m x hm ho hx hk=>exact ⟨ho,hx,hk⟩
 | nanq=>exact ⟨Or.inl ⟨rfl,rfl,rfl⟩,by decide,by rw [Nat.zero_mul]; exact pow_pos2 3100⟩
 | nanl=>exact ⟨Or.inl ⟨rfl,rfl,rfl⟩,by decide,by rw [Nat.zero_mul]; exact pow_pos2 3100⟩
 | inf=>exact ⟨Or.inl ⟨rfl,rfl,rfl⟩,by decide,by rw [Nat.zero_mul]; exact pow_pos2 3100⟩
 | zero=>exact ⟨Or.inl ⟨rfl,rfl,rfl⟩,by decide,by rw [Nat.zero_mul]; exact pow_pos2 3100⟩
def sgS (S:Nat) (s:Bool):Int:=((if s then S else 0:Nat):Int)
theorem nou_T {E F S I:Nat} (h:Fm E F S I) (s:Bool):Tel 143 #[.agg #[.int .i64 E,.int .i64 F],.bool s] (.tuple #[.int .u64 (sgS S s),.int .i64 0]):=fun W=>by
 refine Nought_ok E F _ s h.fo ⟨pow_pos2 F,pow_pos2 E,?_⟩ W
 rw [← h.hS]
 cases s <;> simp
theorem flag_or {B F I md:Nat} {s:Bool} {m k:Nat} {x:Int}:Go.bits .or .u8 (flagR B F I md s m k x:Int) 0 = (flagR B F I md s m k x:Int):=by
 unfold flagR
 split
 ·decide
 ·split
  ·decide
  ·split <;> decide
theorem okd_odd {s:Bool} {m:Nat} {x:Int} (h:OkD s m x) (hm:0 < m):m % 2 = 1∧-1073741824≤x∧x≤1073741824:=by
 rcases h with ⟨_,h1,_⟩|h1
 ·omega
 ·exact h1
theorem ifc {a c:TypeId} {b d:Value} (h:Value.iface a b = .iface c d):a = c∧b = d:=by injection h with h1 h2; exact ⟨h1,h2⟩
theorem name_bad (md:Nat) (hm:4 < md) (w:World) :
  Calls Tryz.prog 18 #[.int .u8 (md:Int)] w fun e w'=>e = .returned (.tuple #[.string ⟨#[]⟩,.int .i64 7])∧Below w.heap.size w w':=by
 go_enter Tryz.func18,Tryz.ntmps18
 go_wp2_with fail
 refine (mode_bad md hm _).mono ?_
 rintro e w1 ⟨rfl,hb1⟩
 clear hm
 go_wp2
 go_ret2
 exact ⟨rfl,hb1⟩
theorem mx_none (v : Value) (w : World) : (method 301 65 v "numeral/soft.times").run Tryz.prog w = .ok (119, v) w := by kernel_rfl
theorem mx_inf (v : Value) (w : World) : (method 301 113 v "numeral/soft.times").run Tryz.prog w = .ok (129, v) w := by kernel_rfl
theorem mx_nou (v : Value) (w : World) : (method 301 114 v "numeral/soft.times").run Tryz.prog w = .ok (140, v) w := by kernel_rfl
theorem mx_num (v : Value) (w : World) : (method 301 116 v "numeral/soft.times").run Tryz.prog w = .ok (150, v) w := by kernel_rfl
theorem en_xnone (args:Array Value) (w:World):(callFunc 119 args).run Tryz.prog w = .ok (.enter 119 args) w:=enter7 Tryz.func119 (by kernel_rfl) (by kernel_rfl) args w
theorem en_xinf (args:Array Value) (w:World):(callFunc 129 args).run Tryz.prog w = .ok (.enter 129 args) w:=enter7 Tryz.func129 (by kernel_rfl) (by kernel_rfl) args w
theorem en_xnou (args:Array Value) (w:World):(callFunc 140 args).run Tryz.prog w = .ok (.enter 140 args) w:=enter7 Tryz.func140 (by kernel_rfl) (by kernel_rfl) args w
theorem en_xnum (args:Array Value) (w:World):(callFunc 150 args).run Tryz.prog w = .ok (.enter 150 args) w:=enter7 Tryz.func150 (by kernel_rfl) (by kernel_rfl) args w
theorem na_none (v : Value) (w : World) : (nilAhead 301 65 v "numeral/soft.plus").run Tryz.prog w = .ok (some false) w := by kernel_rfl
theorem na_inf (v : Value) (w : World) : (nilAhead 301 113 v "numeral/soft.plus").run Tryz.prog w = .ok (some false) w := by kernel_rfl
theorem na_nou (v : Value) (w : World) : (nilAhead 301 114 v "numeral/soft.plus").run Tryz.prog w = .ok (some false) w := by kernel_rfl
theorem en_fma1 (args:Array Value) (w:World):(callFunc 8 args).run Tryz.prog w = .ok (.enter 8 args) w:=enter7 Tryz.func8 (by kernel_rfl) (by kernel_rfl) args w
def FmaIs (E F a b d:Int) (md:Nat) (x y z:Int):Prop:=∀ W:World,Tb W→Nb W→Calls Tryz.prog 5 #[.agg #[.int .i64 E,.int .i64 F],.int .u64 a,.int .u64 b,.int .u64 d,.int .u8 (md:Int)] W fun e w'=>e = .returned (.tuple #[.int .u64 x,.int .u8 y,.int .i64 z])∧Below W.heap.size W w'
def ProdTo (k0 k1 : Kd) (t : TypeId) (y : Value) : Prop := ∃ fn : Nat, (∀ (W : World) (B : Nat) (t0 : TypeId) (y0 : Value), Flt W B (.iface t0 y0) k0 → ∀ w : World, (method 301 t0 y0 "numeral/soft.times").run Tryz.prog w = .ok (fn, y0) w) ∧ (∀ (args : Array Value) (w : World), (callFunc fn args).run Tryz.prog w = .ok (.enter fn args) w) ∧
 ∀ (W:World) (B:Nat) (t0 t1:TypeId) (y0 y1:Value),Flt W B (.iface t0 y0) k0→Flt W B (.iface t1 y1) k1→Calls Tryz.prog fn #[y0,.iface t1 y1] W fun e w'=>e = .returned (.iface t y)∧Below W.heap.size W w'
def ProdNum (k0 k1 : Kd) (r : Bool) (v : Nat) (z : Int) : Prop := ∃ fn : Nat, (∀ (W : World) (B : Nat) (t0 : TypeId) (y0 : Value), Flt W B (.iface t0 y0) k0 → ∀ w : World, (method 301 t0 y0 "numeral/soft.times").run Tryz.prog w = .ok (fn, y0) w) ∧ (∀ (args : Array Value) (w : World), (callFunc fn args).run Tryz.prog w = .ok (.enter fn args) w) ∧
 ∀ (W:World) (B:Nat) (t0 t1:TypeId) (y0 y1:Value),Flt W B (.iface t0 y0) k0→Flt W B (.iface t1 y1) k1→Calls Tryz.prog fn #[y0,.iface t1 y1] W fun e w'=>(∃ A N C,e = .returned (.iface 116 (.agg #[.bool r,.slice A N C,.int .i64 z,.int .u8 0]))∧Mine w' 0 A N C v)∧Below W.heap.size W w'
theorem fma_pp {E F S I a b d md:Nat} (h:Fm E F S I) (ha:a < 2 * S) (hb:b < 2 * S) (hd:d < 2 * S) (hmd:md≤4) {k0 k1 k2:Kd} (HA:FlOf E F a k0) (HB:FlOf E F b k1) (HD:FlOf E F d k2) (hr:(k0.isNan || k1.isNan || k2.isNan) = false) (fm:Nat) (t3:TypeId) (y3:Value) (fr:Nat) (t:TypeId) (y:Value) (bb gg:Int)
  (HT : ProdTo k0 k1 t3 y3) (hna : ∀ w : World, (nilAhead 301 t3 y3 "numeral/soft.plus").run Tryz.prog w = .ok (some false) w) (hm2 : ∀ w : World, (method 301 t3 y3 "numeral/soft.plus").run Tryz.prog w = .ok (fm, y3) w) (hcm : (∀ (args : Array Value) (w : World), (callFunc fm args).run Tryz.prog w = .ok (.enter fm args) w)) (HQ : ∀ (W : World) (B : Nat) (t2 : TypeId) (y2 : Value), Tb W → Flt W B (.iface t2 y2) k2 → Calls Tryz.prog fm #[y3, .iface t2 y2, .int .u8 (md : Int)] W fun e w' => e = .returned (.iface t y) ∧ Below W.heap.size W w')
  (hcr : (∀ (args : Array Value) (w : World), (callFunc fr args).run Tryz.prog w = .ok (.enter fr args) w)) (hm : ∀ w : World, (method 301 t y "numeral/soft.rounded").run Tryz.prog w = .ok (fr, y) w) (HRd : ∀ W : World, Calls Tryz.prog fr #[y, .agg #[.int .i64 E, .int .i64 F], .int .u8 (md : Int)] W fun e w' => e = .returned (.tuple #[.int .u64 bb, .int .u8 gg, .int .i64 0]) ∧ Below W.heap.size W w') : FmaIs E F a b d md bb gg 0 := by
 obtain ⟨fn,hm0,hcf,HP⟩:=HT
 exact fun W hT hN=>sFma_is E F a b d md bb gg 0 W (hide fun W' p pm hbel hp hpm=>operate3_plain E F a b d md 8 p pm (fits_T h ha) (fits_T h hb) (fits_T h hd) k0 k1 k2 (hide HA) (hide HB) (hide HD) hmd hr fr bb gg t y W' hp hpm (hT.kept hbel) (hN.kept hbel) en_fma1 hcr
  (hide fun W q t0 t1 t2 y0 y1 y2 hT hq hpm f0 f1 f2=>fma1_pp q pm fn fm t0 t1 t2 y0 y1 y2 md t3 y3 t y W hq hpm (hm0 W _ t0 y0 f0) hcf (hide fun W' hb=>HP W' _ t0 t1 y0 y1 (f0.kept hb) (f1.kept hb)) hna hm2 hcm (hide fun W' hb=>HQ W' _ t2 y2 (hT.kept hb) (f2.kept hb))) hm (hide HRd))
theorem fma_pn {E F S I a b d md:Nat} (h:Fm E F S I) (ha:a < 2 * S) (hb:b < 2 * S) (hd:d < 2 * S) (hmd:md≤4) {k0 k1 k2:Kd} (HA:FlOf E F a k0) (HB:FlOf E F b k1) (HD:FlOf E F d k2) (hr:(k0.isNan || k1.isNan || k2.isNan) = false) (fm:Nat) (t3:TypeId) (y3:Value) (r:Bool) (v:Nat) (y fl2:Int) (bb gg:Int)
  (HT : ProdTo k0 k1 t3 y3) (hna : ∀ w : World, (nilAhead 301 t3 y3 "numeral/soft.plus").run Tryz.prog w = .ok (some false) w) (hm2 : ∀ w : World, (method 301 t3 y3 "numeral/soft.plus").run Tryz.prog w = .ok (fm, y3) w) (hcm : (∀ (args : Array Value) (w : World), (callFunc fm args).run Tryz.prog w = .ok (.enter fm args) w)) (HQ : ∀ (W : World) (B : Nat) (t2 : TypeId) (y2 : Value), Tb W → Flt W B (.iface t2 y2) k2 → Calls Tryz.prog fm #[y3, .iface t2 y2, .int .u8 (md : Int)] W fun e w' => (∃ A N C, e = .returned (.iface 116 (.agg #[.bool r, .slice A N C, .int .i64 y, .int .u8 fl2])) ∧ Mine w' 0 A N C v) ∧ Below W.heap.size W w')
  (HRd:∀ (W:World) (A:Option Addr) (N C:Nat),Mine W 0 A N C v→Calls Tryz.prog 149 #[.agg #[.bool r,.slice A N C,.int .i64 y,.int .u8 fl2],.agg #[.int .i64 E,.int .i64 F],.int .u8 (md:Int)] W fun e w'=>e = .returned (.tuple #[.int .u64 bb,.int .u8 gg,.int .i64 0])∧Below W.heap.size W w'):FmaIs E F a b d md bb gg 0:=by
 obtain ⟨fn,hm0,hcf,HP⟩:=HT
 exact fun W hT hN=>sFma_is E F a b d md bb gg 0 W (hide fun W' p pm hbel hp hpm=>operate3_num E F a b d md 8 p pm (fits_T h ha) (fits_T h hb) (fits_T h hd) k0 k1 k2 (hide HA) (hide HB) (hide HD) hmd hr 149 bb gg r v y fl2 W' hp hpm (hT.kept hbel) (hN.kept hbel) en_fma1 en_rnum
  (hide fun W q t0 t1 t2 y0 y1 y2 hT hq hpm f0 f1 f2=>fma1_pn q pm fn fm t0 t1 t2 y0 y1 y2 md t3 y3 r v y fl2 W hq hpm (hm0 W _ t0 y0 f0) hcf (hide fun W' hb=>HP W' _ t0 t1 y0 y1 (f0.kept hb) (f1.kept hb)) hna hm2 hcm (hide fun W' hb=>HQ W' _ t2 y2 (hT.kept hb) (f2.kept hb))) (fun _ _ _ w=>mr_num _ w) (hide HRd))
theorem fma_np {E F S I a b d md:Nat} (h:Fm E F S I) (ha:a < 2 * S) (hb:b < 2 * S) (hd:d < 2 * S) (hmd:md≤4) {k0 k1 k2:Kd} (HA:FlOf E F a k0) (HB:FlOf E F b k1) (HD:FlOf E F d k2) (hr:(k0.isNan || k1.isNan || k2.isNan) = false) (r1:Bool) (v1:Nat) (z1:Int) (fr:Nat) (t:TypeId) (y:Value) (bb gg:Int)
  (HT:ProdNum k0 k1 r1 v1 z1) (HQ:∀ (W:World) (A:Option Addr) (N C:Nat) (B:Nat) (t2:TypeId) (y2:Value),Tb W→Mine W 0 A N C v1→Flt W B (.iface t2 y2) k2→Calls Tryz.prog 147 #[.agg #[.bool r1,.slice A N C,.int .i64 z1,.int .u8 0],.iface t2 y2,.int .u8 (md:Int)] W fun e w'=>e = .returned (.iface t y)∧Below W.heap.size W w')
  (hcr : (∀ (args : Array Value) (w : World), (callFunc fr args).run Tryz.prog w = .ok (.enter fr args) w)) (hm : ∀ w : World, (method 301 t y "numeral/soft.rounded").run Tryz.prog w = .ok (fr, y) w) (HRd : ∀ W : World, Calls Tryz.prog fr #[y, .agg #[.int .i64 E, .int .i64 F], .int .u8 (md : Int)] W fun e w' => e = .returned (.tuple #[.int .u64 bb, .int .u8 gg, .int .i64 0]) ∧ Below W.heap.size W w') : FmaIs E F a b d md bb gg 0 := by
 obtain ⟨fn,hm0,hcf,HP⟩:=HT
 exact fun W hT hN=>sFma_is E F a b d md bb gg 0 W (hide fun W' p pm hbel hp hpm=>operate3_plain E F a b d md 8 p pm (fits_T h ha) (fits_T h hb) (fits_T h hd) k0 k1 k2 (hide HA) (hide HB) (hide HD) hmd hr fr bb gg t y W' hp hpm (hT.kept hbel) (hN.kept hbel) en_fma1 hcr
  (hide fun W q t0 t1 t2 y0 y1 y2 hT hq hpm f0 f1 f2=>fma1_np q pm fn 147 t0 t1 t2 y0 y1 y2 md r1 v1 z1 0 t y W hq hpm (hm0 W _ t0 y0 f0) hcf (hide fun W' hb=>HP W' _ t0 t1 y0 y1 (f0.kept hb) (f1.kept hb)) (fun _ _ _ w=>mt_num _ w) en_pnum (hide fun W' A N C hb hmi=>HQ W' A N C _ t2 y2 (hT.kept hb) hmi (f2.kept hb))) hm (hide HRd))
theorem fma_nn {E F S I a b d md:Nat} (h:Fm E F S I) (ha:a < 2 * S) (hb:b < 2 * S) (hd:d < 2 * S) (hmd:md≤4) {k0 k1 k2:Kd} (HA:FlOf E F a k0) (HB:FlOf E F b k1) (HD:FlOf E F d k2) (hr:(k0.isNan || k1.isNan || k2.isNan) = false) (r1:Bool) (v1:Nat) (z1:Int) (r:Bool) (v:Nat) (y fl2:Int) (bb gg:Int)
  (HT:ProdNum k0 k1 r1 v1 z1) (HQ:∀ (W:World) (A:Option Addr) (N C:Nat) (B:Nat) (t2:TypeId) (y2:Value),Tb W→Mine W 0 A N C v1→Flt W B (.iface t2 y2) k2→Calls Tryz.prog 147 #[.agg #[.bool r1,.slice A N C,.int .i64 z1,.int .u8 0],.iface t2 y2,.int .u8 (md:Int)] W fun e w'=>(∃ A N C,e = .returned (.iface 116 (.agg #[.bool r,.slice A N C,.int .i64 y,.int .u8 fl2]))∧Mine w' 0 A N C v)∧Below W.heap.size W w')
  (HRd:∀ (W:World) (A:Option Addr) (N C:Nat),Mine W 0 A N C v→Calls Tryz.prog 149 #[.agg #[.bool r,.slice A N C,.int .i64 y,.int .u8 fl2],.agg #[.int .i64 E,.int .i64 F],.int .u8 (md:Int)] W fun e w'=>e = .returned (.tuple #[.int .u64 bb,.int .u8 gg,.int .i64 0])∧Below W.heap.size W w'):FmaIs E F a b d md bb gg 0:=by
 obtain ⟨fn,hm0,hcf,HP⟩:=HT
 exact fun W hT hN=>sFma_is E F a b d md bb gg 0 W (hide fun W' p pm hbel hp hpm=>operate3_num E F a b d md 8 p pm (fits_T h ha) (fits_T h hb) (fits_T h hd) k0 k1 k2 (hide HA) (hide HB) (hide HD) hmd hr 149 bb gg r v y fl2 W' hp hpm (hT.kept hbel) (hN.kept hbel) en_fma1 en_rnum
  (hide fun W q t0 t1 t2 y0 y1 y2 hT hq hpm f0 f1 f2=>fma1_nn q pm fn 147 t0 t1 t2 y0 y1 y2 md r1 v1 z1 0 r v y fl2 W hq hpm (hm0 W _ t0 y0 f0) hcf (hide fun W' hb=>HP W' _ t0 t1 y0 y1 (f0.kept hb) (f1.kept hb)) (fun _ _ _ w=>mt_num _ w) en_pnum (hide fun W' A N C hb hmi=>HQ W' A N C _ t2 y2 (hT.kept hb) hmi (f2.kept hb))) (fun _ _ _ w=>mr_num _ w) (hide HRd))
theorem fma_nan {E F S I a b d md:Nat} (h:Fm E F S I) (ha:a < 2 * S) (hb:b < 2 * S) (hd:d < 2 * S) (hmd:md≤4) {k0 k1 k2:Kd} (HA:FlOf E F a k0) (HB:FlOf E F b k1) (HD:FlOf E F d k2) (hr:(k0.isNan || k1.isNan || k2.isNan) = true) (fl:Nat) (hfl:nn3 k0 k1 k2 = (fl:Int)) (n:Int) (HN:Tel 121 #[.agg #[.int .i64 E,.int .i64 F],.bool false,.int .u64 0] (.tuple #[.int .u64 n,.int .i64 0])):FmaIs E F a b d md n fl 0:=
 fun W hT hN=>sFma_is E F a b d md n fl 0 W (hide fun W' p pm hbel hp hpm=>operate3_nan E F a b d md 8 p pm (fits_T h ha) (fits_T h hb) (fits_T h hd) k0 k1 k2 (hide HA) (hide HB) (hide HD) hmd hr 118 n fl 65 (.agg #[.int .u8 (fl:Int)]) fl hfl W' hp hpm (hT.kept hbel) (hN.kept hbel) en_fma1 en_rnone
  (hide fun W q t0 t1 t2 y0 y1 y2 hT hq hpm f0 f1 f2=>by
   obtain ⟨rfl,rfl⟩:=Value.iface.inj f0
   exact fma1_pp q pm 119 116 _ t1 t2 _ y1 y2 md _ _ _ _ W hq hpm (fun w=>mx_none _ w) en_xnone (hide fun W' hb=>nonetimes fl t1 y1 W') (fun w=>na_none _ w) (fun w=>mt_none _ w) en_pnone (hide fun W' hb=>noneplus fl md t2 y2 W')) (fun w=>mr_none _ w) (hide fun W=>nonerounded fl E F md n 0 HN W))
theorem exp_low {v:Nat} {y:Int} (kv:v * 2 ^ (y - -2048).toNat < 2 ^ 3100) (h0:0 < v):y≤1100:=by
 refine Int.not_lt.1 fun hc=>?_
 have h1:2 ^ (y - -2048).toNat≤v * 2 ^ (y - -2048).toNat:=Nat.le_mul_of_pos_left _ h0
 have h2:2 ^ 3100≤2 ^ (y - -2048).toNat:=pow_bound (n:=3100) (k:=(y - -2048).toNat) (by omega)
 exact Nat.lt_irrefl (2 ^ 3100) (Nat.lt_of_le_of_lt (Nat.le_trans h2 h1) kv)
theorem lt_twice {p q k:Nat} (hp:p < 2 ^ k) (hq:q < 2 ^ k):p * q < 2 ^ (k+k):=by
 rw [Nat.pow_add]
 exact Nat.mul_lt_mul'' hp hq
theorem prod_both {s0 s1:Bool} {m0 m1:Nat} {x0 x1:Int} (o0:OkD s0 m0 x0∧-2048≤x0∧m0 * 2 ^ (x0 - -2048).toNat < 2 ^ 3100) (o1:OkD s1 m1 x1∧-2048≤x1∧m1 * 2 ^ (x1 - -2048).toNat < 2 ^ 3100) (p0:0 < m0) (p1:0 < m1) :
  ProdsM s0 m0 x0 s1 m1 x1 0 (s0 != s1) (m0 * m1) (x0+x1)∧RProds s0 m0 x0 s1 m1 x1 (s0 != s1) (m0 * m1) (x0+x1)∧(m0 * m1) % 2 = 1∧-4096≤x0+x1∧x0+x1≤2200∧blen (m0 * m1)≤6200:=by
 obtain ⟨hA,la,ka⟩:=o0
 obtain ⟨hB,lb,kb⟩:=o1
 have ea:=exp_low ka p0
 have eb:=exp_low kb p1
 have qa:m0 < 2 ^ 3100:=Nat.lt_of_le_of_lt (Nat.le_mul_of_pos_right _ (pow_pos2 _)) ka
 have qb:m1 < 2 ^ 3100:=Nat.lt_of_le_of_lt (Nat.le_mul_of_pos_right _ (pow_pos2 _)) kb
 have qv:=lt_twice qa qb
 have hno:¬ Over (m0 * m1):=not_over qv (by decide)
 have hbl:=(bl_blen (m0 * m1)).le_of qv
 clear ka kb qa qb qv
 have oa:=hA.oddM p0
 have ob:=hB.oddM p1
 have hod:(m0 * m1) % 2 = 1:=by rw [Nat.mul_mod,oa.1,ob.1]
 rcases mul_oneM hA hB with ⟨h0,P⟩|⟨_,⟨hc,_⟩|⟨_,P⟩⟩
 ·omega
 ·exfalso
  rcases hc with hc|hc|hc
  ·omega
  ·omega
  ·exact hno hc
 ·refine ⟨P,fun W A N C A' N' C' g g'=>?_,hod,by omega,by omega,by omega⟩
  refine rmul_ok4 s0 A N C m0 x0 s1 A' N' C' m1 x1 (m0 * m1) (s0 != s1) (m0 * m1) (x0+x1) (ne0 g p0) (ne0 g' p1) oa.2 ob.2 W g g' (hide fun W g g'=>rtwo_ok s0 A N C m0 x0 s1 A' N' C' m1 x1 W g g' hA hB) (hide (rmul_fit hno)) (hide fun W A N C g=>?_)
  have:=rmake_ok (s0 != s1) A N C (m0 * m1) 0 (x0+x1) W g (Nat.mul_pos p0 p1) ⟨m0 * m1 / 2,by omega⟩ (by decide) (by omega) (by omega) (by omega)
  rw [show (x0+x1)+((0:Nat):Int) = x0+x1 from by omega,show m0 * m1 / 2 ^ 0 = m0 * m1 from by simp] at this
  exact this
theorem top_lowK {v:Nat} {y L:Int} {K:Nat} (kv:v * 2 ^ (y - L).toNat < 2 ^ (K+1)) (h0:0 < v):y≤(K:Int)+L:=by
 refine Int.not_lt.1 fun hc=>?_
 have h1:2 ^ (y - L).toNat≤v * 2 ^ (y - L).toNat:=Nat.le_mul_of_pos_left _ h0
 have h2:2 ^ (K+1)≤2 ^ (y - L).toNat:=pow_bound (n:=K+1) (k:=(y - L).toNat) (by omega)
 exact Nat.lt_irrefl (2 ^ (K+1)) (Nat.lt_of_le_of_lt (Nat.le_trans h2 h1) kv)
theorem sum_gen {E F S I B md:Nat} (h:Fm E F S I) (hB:B = 2 ^ (E - 1) - 1) (hmd:md≤4) (L:Int) (K:Nat) (hL:-4500≤L) (hL0:L≤0) (hK:K≤8000) (hKL:(K:Int)+L≤4900) {s0 s1:Bool} {m0 m1:Nat} {x0 x1:Int} (g0 g1:Bool) (o0:OkD s0 m0 x0∧L≤x0∧m0 * 2 ^ (x0 - L).toNat < 2 ^ K) (o1:OkD s1 m1 x1∧L≤x1∧m1 * 2 ^ (x1 - L).toNat < 2 ^ K) :
  ∃ (r:Bool) (v:Nat) (y xs ys:Int),SumsM s0 m0 x0 s1 m1 x1 0 r v y∧OkD r v y∧L≤y∧sv r (v * 2 ^ (y - L).toNat) = sv s0 (m0 * 2 ^ (x0 - L).toNat)+sv s1 (m1 * 2 ^ (x1 - L).toNat) ∧
   (∀ (W:World) (A:Option Addr) (N C:Nat) (A':Option Addr) (N' C':Nat),Num W A N m0→Num W A' N' m1→Calls Tryz.prog 16 #[.agg #[.int .i64 E,.int .i64 F],.agg #[.bool s0,.slice A N C,.int .i64 x0],.agg #[.bool s1,.slice A' N' C',.int .i64 x1],.bool g0,.bool g1,.int .u8 (md:Int)] W fun e w'=>e = .returned (.tuple #[.int .u64 xs,.int .u8 ys])∧Below W.heap.size W w') ∧
   (0 < v→xs = (bitsR S I md r (rowR B F md r v (blen v) y):Int)∧ys = (flagR B F I md r v (blen v) y:Int))∧(v = 0→m0 = 0→g0 = g1→xs = sgS S g0∧ys = 0)∧(v = 0→¬ (m0 = 0∧g0 = g1)→xs = sgS S (decide (md = 4))∧ys = 0):=by
 obtain ⟨oa,la,ka⟩:=o0
 obtain ⟨ob,lb,kb⟩:=o1
 obtain ⟨r,v,y,SU,ok,ly,kv,we⟩:=add_inM L K oa ob (by omega) hL0 (by omega) la lb ka kb
 obtain ⟨r',v',y',RS,ok',ly',we'⟩:=radd_in L K oa ob (by omega) hL0 (by omega) la lb ka kb
 obtain ⟨rfl,rfl,rfl⟩:=OkD.oneM ok ok' ly ly' (we.trans we'.symm)
 have hm4:((md:Int) == (4:Int)) = decide (md = 4):=by rw [Bool.eq_iff_iff]; simp; omega
 rcases Nat.eq_zero_or_pos v with hv|hv
 ·by_cases hc:m0 = 0∧g0 = g1
  ·refine ⟨r,v,y,sgS S g0,0,SU,ok,ly,we,fun W A N C A' N' C' n0 n1=>?_,fun c=>by omega,fun _ _ _=>⟨rfl,rfl⟩,fun _ c=>absurd hc c⟩
   exact xsum_same E F md s0 A N C m0 x0 s1 A' N' C' m1 x1 g0 g1 r v y _ W n0 n1 (hide RS) hv (n0.zero.2 hc.1) (by rw [hc.2]; simp) (fun W=>xzero E F _ g0 (xsign_T h g0) W)
  ·refine ⟨r,v,y,sgS S (decide (md = 4)),0,SU,ok,ly,we,fun W A N C A' N' C' n0 n1=>?_,fun c=>by omega,fun _ c1 c2=>absurd ⟨c1,c2⟩ hc,fun _ _=>⟨rfl,rfl⟩⟩
   refine xsum_diff E F md s0 A N C m0 x0 s1 A' N' C' m1 x1 g0 g1 r v y _ W n0 n1 (hide RS) hv ?_ _ hm4 (fun W=>xzero E F _ _ (xsign_T h _) W)
   by_cases h1:m0 = 0
   ·exact Or.inr (by simpa using fun c=>hc ⟨h1,c⟩)
   ·exact Or.inl (by have:=n0.zero; simp; omega)
 ·have hod:=okd_odd ok hv
  have hyl:=top_lowK kv hv
  have hvK:v < 2 ^ (K+1):=Nat.lt_of_le_of_lt (Nat.le_mul_of_pos_right _ (pow_pos2 _)) kv
  have hbl:=(bl_blen v).le_of hvK
  clear kv hvK ka kb
  refine ⟨r,v,y,_,_,SU,ok,ly,we,fun W A N C A' N' C' n0 n1=>?_,fun _=>⟨rfl,rfl⟩,fun c=>by omega,fun c=>by omega⟩
  exact xsum_num E F md s0 A N C m0 x0 s1 A' N' C' m1 x1 g0 g1 r v y _ _ W n0 n1 (hide RS) hv (hide fun W A N C g=>xworth E F md r A N C v y _ _ W g (hide fun W g=>rround_any h hB hmd r A N C v (blen v) y W g hod.1 (by omega) (bl_blen v) (by omega)))
theorem lt_wide {p n k:Nat} (hp:p < 2 ^ k) (h:n < k):p * 2 ^ n < 2 ^ (k+k):=lt_twice hp (Nat.pow_lt_pow_right (by decide) h)
theorem zero_lt_pow {q k:Nat}:0 * q < 2 ^ k:=by
 rw [Nat.zero_mul]
 exact pow_pos2 k
theorem wide_ok {s:Bool} {m:Nat} {x:Int} {P K:Nat} {J L:Int} (hJ:J = -2048) (hP:P = 3100) (hL:L = -4096) (hK:K = P+P) (o:OkD s m x∧J≤x∧m * 2 ^ (x - J).toNat < 2 ^ P):OkD s m x∧L≤x∧m * 2 ^ (x - L).toNat < 2 ^ K:=by
 obtain ⟨a,b,c⟩:=o
 refine ⟨a,by omega,?_⟩
 obtain ⟨D,hD⟩:∃ D,D = 2048:=⟨_,rfl⟩
 rw [show (x - L).toNat = (x - J).toNat+D from by omega,Nat.pow_add,← Nat.mul_assoc,hK]
 exact lt_wide c (by omega)
theorem rprod_any {s0 s1:Bool} {m0 m1:Nat} {x0 x1:Int} (o0:OkD s0 m0 x0∧-2048≤x0∧m0 * 2 ^ (x0 - -2048).toNat < 2 ^ 3100) (o1:OkD s1 m1 x1∧-2048≤x1∧m1 * 2 ^ (x1 - -2048).toNat < 2 ^ 3100) {K:Nat} {L:Int} (hK:K = 3100+3100) (hL:L = -4096) :
  ∃ (r:Bool) (v:Nat) (y:Int),RProds s0 m0 x0 s1 m1 x1 r v y∧(OkD r v y∧L≤y∧v * 2 ^ (y - L).toNat < 2 ^ K)∧((0 < m0∧0 < m1)→r = (s0 != s1)∧v = m0 * m1∧y = x0+x1)∧((m0 = 0∨m1 = 0)→v = 0):=by
 have zz:OkD false 0 0∧L≤0∧0 * 2 ^ (0 - L).toNat < 2 ^ K:=⟨Or.inl ⟨rfl,rfl,rfl⟩,by omega,zero_lt_pow⟩
 rcases Nat.eq_zero_or_pos m0 with h0|h0
 ·refine ⟨false,0,0,fun W A N C A' N' C' g g'=>?_,zz,fun c=>by omega,fun _=>rfl⟩
  obtain rfl:=g.zero.2 h0
  refine (rmul_left s0 A C m0 x0 s1 A' N' C' m1 x1 W g g' (hide fun W g g'=>rtwo_ok s0 A 0 C m0 x0 s1 A' N' C' m1 x1 W g g' o0.1 o1.1)).mono ?_
  rintro e w' ⟨rfl,hb⟩
  exact ⟨⟨none,0,0,rfl,mine_none _ _⟩,hb⟩
 rcases Nat.eq_zero_or_pos m1 with h1|h1
 ·refine ⟨false,0,0,fun W A N C A' N' C' g g'=>?_,zz,fun c=>by omega,fun _=>rfl⟩
  obtain rfl:=g'.zero.2 h1
  refine (rmul_right s0 A N C m0 x0 s1 A' C' m1 x1 (ne0 g h0) W g g' (hide fun W g g'=>rtwo_ok s0 A N C m0 x0 s1 A' 0 C' m1 x1 W g g' o0.1 o1.1)).mono ?_
  rintro e w' ⟨rfl,hb⟩
  exact ⟨⟨none,0,0,rfl,mine_none _ _⟩,hb⟩
 ·obtain ⟨_,RP,hod,hlo,hhi,_⟩:=prod_both o0 o1 h0 h1
  refine ⟨_,_,_,RP,⟨Or.inr ⟨hod,by omega,by omega⟩,by omega,?_⟩,fun _=>⟨rfl,rfl,rfl⟩,fun c=>by omega⟩
  have:=lt_twice o0.2.2 o1.2.2
  have hx0:=o0.2.1
  have hx1:=o1.2.1
  rw [show (x0+x1 - L).toNat = (x0 - -2048).toNat+(x1 - -2048).toNat from by omega,Nat.pow_add,hK]
  refine Nat.lt_of_le_of_lt (Nat.le_of_eq ?_) this
  ac_rfl
theorem times_kinds {k0 k1:Kd} {g0 n0 q0 i0 s0 g1 n1 q1 i1 s1:Bool} {m0 m1:Nat} {x0 x1:Int} (K0:Kr k0 g0 n0 q0 i0 s0 m0 x0) (K1:Kr k1 g1 n1 q1 i1 s1 m1 x1) (hr:(n0 || n1) = false) :
  (ProdTo k0 k1 65 (.agg #[.int .u8 16])∧((i0 = true∧i1 = false∧m1 = 0)∨(i0 = false∧i1 = true∧m0 = 0))) ∨
  (ProdTo k0 k1 113 (.agg #[.bool (!g0 == g1),.int .u8 0])∧((i0 = true∧i1 = true)∨(i0 = true∧i1 = false∧0 < m1)∨(i0 = false∧i1 = true∧0 < m0))) ∨
  (ProdTo k0 k1 114 (.agg #[.bool (!g0 == g1),.int .u8 0])∧i0 = false∧i1 = false∧(m0 = 0∨m1 = 0)) ∨
  (ProdNum k0 k1 (s0 != s1) (m0 * m1) (x0+x1)∧i0 = false∧i1 = false∧0 < m0∧0 < m1):=by
 have PB:=@prod_both s0 s1 m0 m1 x0 x1 K0.ok K1.ok
 cases K0 with
 | nanq=>simp at hr
 | nanl=>simp at hr
 | inf=>
  cases K1 with
  | nanq=>simp at hr
  | nanl=>simp at hr
  | inf=>
   refine Or.inr (Or.inl ⟨⟨129,fun W B t0 y0 f w=>by obtain ⟨rfl,rfl⟩:=ifc f; exact mx_inf _ w,en_xinf,fun W B t0 t1 y0 y1 f0 f1=>?_⟩,Or.inl ⟨rfl,rfl⟩⟩)
   obtain ⟨rfl,rfl⟩:=ifc f0
   obtain ⟨rfl,rfl⟩:=ifc f1
   exact inftimes_o g0 0 _ _ g1 _ (by cases g0 <;> cases g1 <;> rfl) (ng_inf g1 0) (by decide) W
  | zero=>
   refine Or.inl ⟨⟨129,fun W B t0 y0 f w=>by obtain ⟨rfl,rfl⟩:=ifc f; exact mx_inf _ w,en_xinf,fun W B t0 t1 y0 y1 f0 f1=>?_⟩,Or.inl ⟨rfl,rfl,rfl⟩⟩
   obtain ⟨rfl,rfl⟩:=ifc f0
   obtain ⟨rfl,rfl⟩:=ifc f1
   exact inftimes_nou g0 g1 0 0 W
  | num _ _ _ hm1 ho1 hx1 hk1=>
   clear hk1
   refine Or.inr (Or.inl ⟨⟨129,fun W B t0 y0 f w=>by obtain ⟨rfl,rfl⟩:=ifc f; exact mx_inf _ w,en_xinf,fun W B t0 t1 y0 y1 f0 f1=>?_⟩,Or.inr (Or.inl ⟨rfl,rfl,hm1⟩)⟩)
   obtain ⟨rfl,rfl⟩:=ifc f0
   obtain ⟨A1,N1',C1,f1,hmj⟩:=f1
   obtain ⟨rfl,rfl⟩:=ifc f1
   exact inftimes_o g0 0 _ _ g1 _ (by cases g0 <;> cases g1 <;> rfl) (ng_num g1 A1 N1' C1 x1 0) (by decide) W
 | zero=>
  cases K1 with
  | nanq=>simp at hr
  | nanl=>simp at hr
  | inf=>
   refine Or.inl ⟨⟨140,fun W B t0 y0 f w=>by obtain ⟨rfl,rfl⟩:=ifc f; exact mx_nou _ w,en_xnou,fun W B t0 t1 y0 y1 f0 f1=>?_⟩,Or.inr ⟨rfl,rfl,rfl⟩⟩
   obtain ⟨rfl,rfl⟩:=ifc f0
   obtain ⟨rfl,rfl⟩:=ifc f1
   exact noutimes_inf g0 g1 0 0 W
  | zero=>
   refine Or.inr (Or.inr (Or.inl ⟨⟨140,fun W B t0 y0 f w=>by obtain ⟨rfl,rfl⟩:=ifc f; exact mx_nou _ w,en_xnou,fun W B t0 t1 y0 y1 f0 f1=>?_⟩,rfl,rfl,Or.inl rfl⟩))
   obtain ⟨rfl,rfl⟩:=ifc f0
   obtain ⟨rfl,rfl⟩:=ifc f1
   exact noutimes_o g0 0 _ _ g1 _ (by cases g0 <;> cases g1 <;> rfl) (ng_nou g1 0) (by decide) W
  | num _ _ _ hm1 ho1 hx1 hk1=>
   clear hk1
   refine Or.inr (Or.inr (Or.inl ⟨⟨140,fun W B t0 y0 f w=>by obtain ⟨rfl,rfl⟩:=ifc f; exact mx_nou _ w,en_xnou,fun W B t0 t1 y0 y1 f0 f1=>?_⟩,rfl,rfl,Or.inl rfl⟩))
   obtain ⟨rfl,rfl⟩:=ifc f0
   obtain ⟨A1,N1',C1,f1,hmj⟩:=f1
   obtain ⟨rfl,rfl⟩:=ifc f1
   exact noutimes_o g0 0 _ _ g1 _ (by cases g0 <;> cases g1 <;> rfl) (ng_num g1 A1 N1' C1 x1 0) (by decide) W
 | num _ _ _ hm0 ho hx hk=>
  clear hk
  cases K1 with
  | nanq=>simp at hr
  | nanl=>simp at hr
  | inf=>
   refine Or.inr (Or.inl ⟨⟨150,fun W B t0 y0 f w=>by obtain ⟨A,N,C,f,_⟩:=f; obtain ⟨rfl,rfl⟩:=ifc f; exact mx_num _ w,en_xnum,fun W B t0 t1 y0 y1 f0 f1=>?_⟩,Or.inr (Or.inr ⟨rfl,rfl,hm0⟩)⟩)
   obtain ⟨A,N,C,f0,hmi⟩:=f0
   obtain ⟨rfl,rfl⟩:=ifc f0
   obtain ⟨rfl,rfl⟩:=ifc f1
   exact numtimes_inf g0 A N C x0 0 0 g1 _ (by cases g0 <;> cases g1 <;> rfl) W
  | zero=>
   refine Or.inr (Or.inr (Or.inl ⟨⟨150,fun W B t0 y0 f w=>by obtain ⟨A,N,C,f,_⟩:=f; obtain ⟨rfl,rfl⟩:=ifc f; exact mx_num _ w,en_xnum,fun W B t0 t1 y0 y1 f0 f1=>?_⟩,rfl,rfl,Or.inr rfl⟩))
   obtain ⟨A,N,C,f0,hmi⟩:=f0
   obtain ⟨rfl,rfl⟩:=ifc f0
   obtain ⟨rfl,rfl⟩:=ifc f1
   exact numtimes_nou g0 A N C x0 0 0 g1 _ (by cases g0 <;> cases g1 <;> rfl) W
  | num _ _ _ hm1 ho1 hx1 hk1=>
   clear hk1
   refine Or.inr (Or.inr (Or.inr ⟨⟨150,fun W B t0 y0 f w=>by obtain ⟨A,N,C,f,_⟩:=f; obtain ⟨rfl,rfl⟩:=ifc f; exact mx_num _ w,en_xnum,fun W B t0 t1 y0 y1 f0 f1=>?_⟩,rfl,rfl,hm0,hm1⟩))
   obtain ⟨A,N,C,f0,hmi⟩:=f0
   obtain ⟨rfl,rfl⟩:=ifc f0
   obtain ⟨A1,N1',C1,f1,hmj⟩:=f1
   obtain ⟨rfl,rfl⟩:=ifc f1
   refine (numtimes_num g0 A N C m0 x0 0 g1 A1 N1' C1 m1 x1 0 (g0 != g1) (m0 * m1) (x0+x1) W hmi.num hmj.num (hide (PB hm0 hm1).1)).mono ?_
   rintro e w' ⟨⟨A2,N2',C2,rfl,hm2⟩,hbl⟩
   exact ⟨⟨A2,N2',C2,rfl,hm2.mono (Nat.zero_le _)⟩,hbl⟩
end Go.Proofs.YtfimakkpdjppfaaGreatDoor
