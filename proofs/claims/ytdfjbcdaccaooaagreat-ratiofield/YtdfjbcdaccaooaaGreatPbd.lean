/- Of what RFieldRow stands on: RBits RField. -/
import Derived.Test.YtdfjbcdaccaooaaGreatPaz
import Derived.Test.YtdfjbcdaccaooaaGreatPbc
import Derived.Test.YtdfjbcdaccaooaaGreatPax
namespace Go.Proofs.YtdfjbcdaccaooaaGreat
open Go.RowKit
def Bd (k : Nat) (x : Rat) : Prop := x.num.natAbs < 2 ^ k ∧ x.den < 2 ^ k
theorem bd_mk {n : Int} {d k : Nat} (hn : n.natAbs < 2 ^ k) (hd : d < 2 ^ k) (h0 : d ≠ 0) : Bd k (mkRat n d) := by
 constructor
 ·rw [Rat.num_mkRat,if_neg h0]
  exact Nat.lt_of_le_of_lt (Int.natAbs_ediv_le_natAbs _ _) hn
 ·rw [Rat.den_mkRat,if_neg h0]
  exact Nat.lt_of_le_of_lt (Nat.div_le_self _ _) hd
theorem Bd.mono {j k : Nat} {x : Rat} (h : Bd j x) (hk : j ≤ k) : Bd k x := ⟨Nat.lt_of_lt_of_le h.1 (Nat.pow_le_pow_right (by decide) hk),Nat.lt_of_lt_of_le h.2 (Nat.pow_le_pow_right (by decide) hk)⟩
theorem mul_bits {a b j k : Nat} (ha : a < 2 ^ j) (hb : b < 2 ^ k) : a * b < 2 ^ (j + k) := by
 rw [Nat.pow_add]
 exact Nat.mul_lt_mul_of_lt_of_le ha (Nat.le_of_lt hb) (Nat.pow_pos (by decide))
theorem Bd.mul {j k : Nat} {x y : Rat} (h : Bd j x) (h' : Bd k y) : Bd (j + k) (x * y) := by
 rw [Rat.mul_def']
 refine bd_mk (by rw [Int.natAbs_mul]; exact mul_bits h.1 h'.1) (mul_bits h.2 h'.2) ?_
 have := Nat.mul_pos x.den_pos y.den_pos
 omega
theorem Bd.add {j k : Nat} {x y : Rat} (h : Bd j x) (h' : Bd k y) : Bd (j + k + 1) (x + y) := by
 rw [Rat.add_def']
 have e1 : x.num.natAbs * y.den < 2 ^ (j + k) := mul_bits h.1 h'.2
 have e2 : y.num.natAbs * x.den < 2 ^ (j + k) := by rw [Nat.add_comm]; exact mul_bits h'.1 h.2
 have e3 : (x.num * y.den + y.num * x.den).natAbs ≤ x.num.natAbs * y.den + y.num.natAbs * x.den := by
  have := Int.natAbs_add_le (x.num * y.den) (y.num * x.den)
  rw [Int.natAbs_mul,Int.natAbs_mul,Int.natAbs_natCast,Int.natAbs_natCast] at this
  exact this
 have e4 : 2 ^ (j + k + 1) = 2 ^ (j + k) * 2 := Nat.pow_succ ..
 refine bd_mk (by omega) ?_ ?_
 ·have := mul_bits h.2 h'.2
  omega
 ·have := Nat.mul_pos x.den_pos y.den_pos
  omega
theorem Bd.neg {k : Nat} {x : Rat} (h : Bd k x) : Bd k (-x) := ⟨by rw [Rat.neg_num,Int.natAbs_neg]; exact h.1,h.2⟩
theorem Bd.sub {j k : Nat} {x y : Rat} (h : Bd j x) (h' : Bd k y) : Bd (j + k + 1) (x - y) := by rw [Rat.sub_eq_add_neg]; exact h.add h'.neg
theorem Bd.inv {k : Nat} {x : Rat} (h : Bd k x) (hx : x.num ≠ 0) : Bd k x⁻¹ := by
 have q := (Rm.Q.self x).inv (by omega)
 exact ⟨by rw [q.abs]; exact h.2,by rw [q.den]; exact h.1⟩
theorem Bd.div {j k : Nat} {x y : Rat} (h : Bd j x) (h' : Bd k y) (hy : y.num ≠ 0) : Bd (j + k) (x / y) := by rw [Rat.div_def]; exact h.mul (h'.inv hy)
theorem Bd.ok {k : Nat} {x : Rat} (h : Bd k x) (hk : k ≤ 1000) : ¬ Over x.num.natAbs ∧ ¬ Over x.den := by
 have h1 : 2 ^ k ≤ 4294967296 ^ Pl.top := by
  rw [pow32]; exact Nat.pow_le_pow_right (by decide) (by rw [Pl.top_eq]; omega)
 exact ⟨fun o => by have := o.le; have := h.1; omega,fun o => by have := o.le; have := h.2; omega⟩
structure Fe where
 (s : Bool) (a : Option Addr) (n : Nat) (a' : Option Addr) (n' : Nat) (x : Rat)
def Fl (W : World) (l : List Fe) : Prop := ∀ e,e ∈ l → Fq W e.s e.a e.n e.a' e.n' e.x
theorem Fl.kept {w w' : World} {l : List Fe} (h : Fl w l) (hb : Below w.heap.size w w') : Fl w' l := fun e he => (h e he).kept hb
theorem Fl.cons {w : World} {l : List Fe} {s : Bool} {a a' : Option Addr} {n n' : Nat} {x : Rat} (h : Fl w l) (hq : Fq w s a n a' n' x) : Fl w (⟨s,a,n,a',n',x⟩ :: l) := fun e he => by
 rcases List.mem_cons.1 he with rfl | he
 ·exact hq
 ·exact h e he
theorem Fl.nil (w : World) : Fl w [] := fun _ h => nomatch h
set_option maxHeartbeats 1000000 in
theorem lawSame_rat (s t : Bool) (a1 a2 a3 a4 : Option Addr) (n1 n2 n3 n4 c1 c2 c3 c4 : Nat) (x y : Rat) (w : World) (hx : Fq w s a1 n1 a2 n2 x) (hy : Fq w t a3 n3 a4 n4 y) (he : x = y) :
  Calls Tryz.prog 10 #[.agg #[.bool s,.slice a1 n1 c1,.slice a2 n2 c2],.agg #[.bool t,.slice a3 n3 c3,.slice a4 n4 c4]] w fun e w' => e = .returned (.bool true) ∧ Below w.heap.size w w' := by
 have hS := ((Rs.begin w).alloc #[.bool s,.slice a1 n1 c1,.slice a2 n2 c2] 29).alloc #[.bool t,.slice a3 n3 c3,.slice a4 n4 c4] 29
 go_enter Tryz.func10,Tryz.ntmps10
 go_wp2_with fail
 refine (same_rat s t a1 a2 a3 a4 n1 n2 n3 n4 c1 c2 c3 c4 x y _ (hx.kept hS.fr) (hy.kept hS.fr)).mono ?_
 rintro en w1 ⟨rfl,hb⟩
 rw [decide_eq_true he]
 replace hS := hS.kept hb
 go_wp2
 go_ret
 exact ⟨rfl,hS.fr⟩
def rawRat (s : Bool) (xs ys : List Nat) : Rat := if Pl.val (ys.take 5) = 0 then mkRat (Rm.sgn s (Pl.val (xs.take 5))) 1 else mkRat (Rm.sgn s (Pl.val (xs.take 5))) (Pl.val (ys.take 5))
theorem SArg.wf {W : World} {a : Option Addr} {n cap : Nat} {xs : List Nat} (h : SArg W a n cap xs) : Pl.Wf xs := by
 rcases h with ⟨_,_,_,rfl⟩ | ⟨_,_,_,_,_,_,h⟩
 ·exact Pl.wf_nil
 ·exact h
theorem raw_bd {s : Bool} {xs ys : List Nat} (hx : Pl.Wf xs) (hy : Pl.Wf ys) : Bd 160 (rawRat s xs ys) := by
 have h1 := five_lt xs hx
 have h2 := five_lt ys hy
 have e : 4294967296 ^ 5 = 2 ^ 160 := by decide
 rw [e] at h1 h2
 unfold rawRat
 split
 ·exact bd_mk (by rw [Rm.sgn_abs]; exact h1) (Nat.one_lt_two_pow (by omega)) (by omega)
 ·rename_i h; exact bd_mk (by rw [Rm.sgn_abs]; exact h1) h2 h
theorem made_any (s : Bool) (a1 a2 : Option Addr) (n1 n2 c1 c2 : Nat) (xs ys : List Nat) (w : World) (h1 : SArg w a1 n1 c1 xs) (h2 : SArg w a2 n2 c2 ys) :
  Calls Tryz.prog 6 #[.agg #[.bool s,.slice a1 n1 c1,.slice a2 n2 c2]] w fun en w' => MadeOk w' en (rawRat s xs ys) ∧ Below w.heap.size w w' := by
 obtain ⟨o1,o2⟩ := (raw_bd (s := s) h1.wf h2.wf).ok (by omega)
 by_cases h : Pl.val (ys.take 5) = 0
 ·exact made_none s a1 a2 n1 n2 c1 c2 xs ys _ w h1 h2 h (by rw [rawRat,if_pos h]) o1 o2
 ·exact made_some s a1 a2 n1 n2 c1 c2 xs ys _ w h1 h2 h (by rw [rawRat,if_neg h]) o1 o2
end Go.Proofs.YtdfjbcdaccaooaaGreat
namespace Go.Proofs.YtdfjbcdaccaooaaGreat
open Go.RowKit
set_option maxRecDepth 20000 in
set_option maxHeartbeats 32000000 in
theorem field_any (s1 s2 s3 : Bool) (p1 q1 p2 q2 p3 q3 : Option Addr) (i1 j1 u1 v1 i2 j2 u2 v2 i3 j3 u3 v3 : Nat) (xs1 ys1 xs2 ys2 xs3 ys3 : List Nat) (w : World)
  (h1a : SArg w p1 i1 j1 xs1) (h1b : SArg w q1 u1 v1 ys1) (h2a : SArg w p2 i2 j2 xs2) (h2b : SArg w q2 u2 v2 ys2) (h3a : SArg w p3 i3 j3 xs3) (h3b : SArg w q3 u3 v3 ys3) :
  Calls Tryz.prog 3 #[.agg #[.bool s1,.slice p1 i1 j1,.slice q1 u1 v1],.agg #[.bool s2,.slice p2 i2 j2,.slice q2 u2 v2],.agg #[.bool s3,.slice p3 i3 j3,.slice q3 u3 v3]] w fun e w' => e = .returned (.bool true) ∧ Below w.heap.size w w' := by
 have hS := (((Rs.begin w).alloc #[.bool s1,.slice p1 i1 j1,.slice q1 u1 v1] 24).alloc #[.bool s2,.slice p2 i2 j2,.slice q2 u2 v2] 24).alloc #[.bool s3,.slice p3 i3 j3,.slice q3 u3 v3] 24
 simp only [World.size_alloc] at hS
 obtain ⟨x,hx⟩ : ∃ r,r = rawRat s1 xs1 ys1 := ⟨_,rfl⟩
 have hbx : Bd 160 x := by rw [hx]; exact raw_bd h1a.wf h1b.wf
 have HX := hide (fun W (hb : Below w.heap.size w W) => made_any s1 p1 q1 i1 u1 j1 v1 xs1 ys1 W (h1a.kept hb) (h1b.kept hb))
 rw [← hx] at HX
 clear hx h1a h1b
 obtain ⟨y,hy⟩ : ∃ r,r = rawRat s2 xs2 ys2 := ⟨_,rfl⟩
 have hby : Bd 160 y := by rw [hy]; exact raw_bd h2a.wf h2b.wf
 have HY := hide (fun W (hb : Below w.heap.size w W) => made_any s2 p2 q2 i2 u2 j2 v2 xs2 ys2 W (h2a.kept hb) (h2b.kept hb))
 rw [← hy] at HY
 clear hy h2a h2b
 obtain ⟨z,hz⟩ : ∃ r,r = rawRat s3 xs3 ys3 := ⟨_,rfl⟩
 have hbz : Bd 160 z := by rw [hz]; exact raw_bd h3a.wf h3b.wf
 have HZ := hide (fun W (hb : Below w.heap.size w W) => made_any s3 p3 q3 i3 u3 j3 v3 xs3 ys3 W (h3a.kept hb) (h3b.kept hb))
 rw [← hz] at HZ
 clear hz h3a h3b
 have HBX := hide hbx
 have HBY := hide hby
 have HBZ := hide hbz
 clear hbx hby hbz
 have hF := Fl.nil w
 go_enter Tryz.func3,Tryz.ntmps3
 go_wp2_with fail
 refine (ralive_any _).mono ?_
 rintro en w1 ⟨rfl,hb⟩
 replace hF : Fl w1 [] := Fl.nil _
 replace hS := hS.kept hb
 clear hb
 obtain ⟨-,-,⟨r0,r1,r2,-⟩,-⟩ := hS.cells
 go_wp2_with fail
 clear r0 r1 r2
 refine (unhide HX _ hS.fr).mono ?_
 rintro en w2 ⟨⟨s_a,a_a,n_a,c_a,d_a,m_a,e_a,rfl,hq⟩,hb⟩
 replace hS := (hS.kept hb).alloc #[.bool s_a,.slice a_a n_a c_a,.slice d_a m_a e_a] 29
 replace hF := ((hF.kept hb).cons hq).kept (gr_alloc w2 (.cells #[.bool s_a,.slice a_a n_a c_a,.slice d_a m_a e_a] 29))
 clear hb hq
 obtain ⟨-,-,⟨r0,r1,r2,-⟩,-⟩ := hS.cells
 go_wp2_with fail
 clear r0 r1 r2
 refine (unhide HY _ hS.fr).mono ?_
 rintro en w3 ⟨⟨s_b,a_b,n_b,c_b,d_b,m_b,e_b,rfl,hq⟩,hb⟩
 replace hS := (hS.kept hb).alloc #[.bool s_b,.slice a_b n_b c_b,.slice d_b m_b e_b] 29
 replace hF := ((hF.kept hb).cons hq).kept (gr_alloc w3 (.cells #[.bool s_b,.slice a_b n_b c_b,.slice d_b m_b e_b] 29))
 clear hb hq
 obtain ⟨-,-,⟨r0,r1,r2,-⟩,-⟩ := hS.cells
 go_wp2_with fail
 clear r0 r1 r2
 refine (unhide HZ _ hS.fr).mono ?_
 rintro en w4 ⟨⟨s_c,a_c,n_c,c_c,d_c,m_c,e_c,rfl,hq⟩,hb⟩
 replace hS := (hS.kept hb).alloc #[.bool s_c,.slice a_c n_c c_c,.slice d_c m_c e_c] 29
 replace hF := ((hF.kept hb).cons hq).kept (gr_alloc w4 (.cells #[.bool s_c,.slice a_c n_c c_c,.slice d_c m_c e_c] 29))
 clear hb hq
 obtain ⟨-,⟨k1_0,k1_1,k1_2,-⟩,⟨k0_0,k0_1,k0_2,-⟩,-⟩ := hS.cells
 go_wp2_with fail
 clear k0_0 k0_1 k0_2 k1_0 k1_1 k1_2
 refine (add_rat s_a s_b a_a d_a a_b d_b n_a m_a n_b m_b c_a e_a c_b e_b _ _ _ (hF ⟨s_a,a_a,n_a,d_a,m_a,x⟩ (by simp)) (hF ⟨s_b,a_b,n_b,d_b,m_b,y⟩ (by simp))).mono ?_
 rintro en w5 ⟨hp,hb⟩
 have hB : Bd 321 (x + y) := ((unhide HBX).add (unhide HBY)).mono (by omega)
 obtain ⟨s_ab,a_ab,n_ab,c_ab,d_ab,m_ab,e_ab,rfl,hq⟩ := hp.fq (hB.ok (by omega)).1 (hB.ok (by omega)).2
 have HB_ab := hide hB
 clear hp hB
 replace hS := (hS.kept hb).alloc #[.bool s_ab,.slice a_ab n_ab c_ab,.slice d_ab m_ab e_ab] 29
 replace hF := ((hF.kept hb).cons hq).kept (gr_alloc w5 (.cells #[.bool s_ab,.slice a_ab n_ab c_ab,.slice d_ab m_ab e_ab] 29))
 clear hb hq
 obtain ⟨-,-,⟨k0_0,k0_1,k0_2,-⟩,⟨k1_0,k1_1,k1_2,-⟩,-⟩ := hS.cells
 go_wp2_with fail
 clear k0_0 k0_1 k0_2 k1_0 k1_1 k1_2
 refine (add_rat s_b s_a a_b d_b a_a d_a n_b m_b n_a m_a c_b e_b c_a e_a _ _ _ (hF ⟨s_b,a_b,n_b,d_b,m_b,y⟩ (by simp)) (hF ⟨s_a,a_a,n_a,d_a,m_a,x⟩ (by simp))).mono ?_
 rintro en w6 ⟨hp,hb⟩
 have hB : Bd 321 (y + x) := ((unhide HBY).add (unhide HBX)).mono (by omega)
 obtain ⟨s_ba,a_ba,n_ba,c_ba,d_ba,m_ba,e_ba,rfl,hq⟩ := hp.fq (hB.ok (by omega)).1 (hB.ok (by omega)).2
 have HB_ba := hide hB
 clear hp hB
 replace hS := (hS.kept hb).alloc #[.bool s_ba,.slice a_ba n_ba c_ba,.slice d_ba m_ba e_ba] 29
 replace hF := ((hF.kept hb).cons hq).kept (gr_alloc w6 (.cells #[.bool s_ba,.slice a_ba n_ba c_ba,.slice d_ba m_ba e_ba] 29))
 clear hb hq
 obtain ⟨-,⟨k0_0,k0_1,k0_2,-⟩,⟨k1_0,k1_1,k1_2,-⟩,-⟩ := hS.cells
 go_wp2_with fail
 clear k0_0 k0_1 k0_2 k1_0 k1_1 k1_2
 refine (add_rat s_ab s_c a_ab d_ab a_c d_c n_ab m_ab n_c m_c c_ab e_ab c_c e_c _ _ _ (hF ⟨s_ab,a_ab,n_ab,d_ab,m_ab,(x + y)⟩ (by simp)) (hF ⟨s_c,a_c,n_c,d_c,m_c,z⟩ (by simp))).mono ?_
 rintro en w7 ⟨hp,hb⟩
 have hB : Bd 482 ((x + y) + z) := ((unhide HB_ab).add (unhide HBZ)).mono (by omega)
 obtain ⟨s_abc,a_abc,n_abc,c_abc,d_abc,m_abc,e_abc,rfl,hq⟩ := hp.fq (hB.ok (by omega)).1 (hB.ok (by omega)).2
 have HB_abc := hide hB
 clear hp hB
 replace hS := (hS.kept hb).alloc #[.bool s_abc,.slice a_abc n_abc c_abc,.slice d_abc m_abc e_abc] 29
 replace hF := ((hF.kept hb).cons hq).kept (gr_alloc w7 (.cells #[.bool s_abc,.slice a_abc n_abc c_abc,.slice d_abc m_abc e_abc] 29))
 clear hb hq
 obtain ⟨-,-,-,⟨k1_0,k1_1,k1_2,-⟩,⟨k0_0,k0_1,k0_2,-⟩,-⟩ := hS.cells
 go_wp2_with fail
 clear k0_0 k0_1 k0_2 k1_0 k1_1 k1_2
 refine (add_rat s_b s_c a_b d_b a_c d_c n_b m_b n_c m_c c_b e_b c_c e_c _ _ _ (hF ⟨s_b,a_b,n_b,d_b,m_b,y⟩ (by simp)) (hF ⟨s_c,a_c,n_c,d_c,m_c,z⟩ (by simp))).mono ?_
 rintro en w8 ⟨hp,hb⟩
 have hB : Bd 321 (y + z) := ((unhide HBY).add (unhide HBZ)).mono (by omega)
 obtain ⟨s_bc,a_bc,n_bc,c_bc,d_bc,m_bc,e_bc,rfl,hq⟩ := hp.fq (hB.ok (by omega)).1 (hB.ok (by omega)).2
 have HB_bc := hide hB
 clear hp hB
 replace hS := (hS.kept hb).alloc #[.bool s_bc,.slice a_bc n_bc c_bc,.slice d_bc m_bc e_bc] 29
 replace hF := ((hF.kept hb).cons hq).kept (gr_alloc w8 (.cells #[.bool s_bc,.slice a_bc n_bc c_bc,.slice d_bc m_bc e_bc] 29))
 clear hb hq
 obtain ⟨⟨k1_0,k1_1,k1_2,-⟩,-,-,-,-,-,⟨k0_0,k0_1,k0_2,-⟩,-⟩ := hS.cells
 go_wp2_with fail
 clear k0_0 k0_1 k0_2 k1_0 k1_1 k1_2
 refine (add_rat s_a s_bc a_a d_a a_bc d_bc n_a m_a n_bc m_bc c_a e_a c_bc e_bc _ _ _ (hF ⟨s_a,a_a,n_a,d_a,m_a,x⟩ (by simp)) (hF ⟨s_bc,a_bc,n_bc,d_bc,m_bc,(y + z)⟩ (by simp))).mono ?_
 rintro en w9 ⟨hp,hb⟩
 have hB : Bd 482 (x + (y + z)) := ((unhide HBX).add (unhide HB_bc)).mono (by omega)
 obtain ⟨s_also,a_also,n_also,c_also,d_also,m_also,e_also,rfl,hq⟩ := hp.fq (hB.ok (by omega)).1 (hB.ok (by omega)).2
 have HB_also := hide hB
 clear hp hB
 replace hS := (hS.kept hb).alloc #[.bool s_also,.slice a_also n_also c_also,.slice d_also m_also e_also] 29
 replace hF := ((hF.kept hb).cons hq).kept (gr_alloc w9 (.cells #[.bool s_also,.slice a_also n_also c_also,.slice d_also m_also e_also] 29))
 clear hb hq
 obtain ⟨-,-,-,-,-,-,⟨k1_0,k1_1,k1_2,-⟩,⟨k0_0,k0_1,k0_2,-⟩,-⟩ := hS.cells
 go_wp2_with fail
 clear k0_0 k0_1 k0_2 k1_0 k1_1 k1_2
 refine (mul_rat s_a s_b a_a d_a a_b d_b n_a m_a n_b m_b c_a e_a c_b e_b _ _ _ (hF ⟨s_a,a_a,n_a,d_a,m_a,x⟩ (by simp)) (hF ⟨s_b,a_b,n_b,d_b,m_b,y⟩ (by simp))).mono ?_
 rintro en w10 ⟨hp,hb⟩
 have hB : Bd 320 (x * y) := ((unhide HBX).mul (unhide HBY)).mono (by omega)
 obtain ⟨s_p,a_p,n_p,c_p,d_p,m_p,e_p,rfl,hq⟩ := hp.fq (hB.ok (by omega)).1 (hB.ok (by omega)).2
 have HB_p := hide hB
 clear hp hB
 replace hS := (hS.kept hb).alloc #[.bool s_p,.slice a_p n_p c_p,.slice d_p m_p e_p] 29
 replace hF := ((hF.kept hb).cons hq).kept (gr_alloc w10 (.cells #[.bool s_p,.slice a_p n_p c_p,.slice d_p m_p e_p] 29))
 clear hb hq
 obtain ⟨-,-,-,-,-,-,-,⟨k0_0,k0_1,k0_2,-⟩,⟨k1_0,k1_1,k1_2,-⟩,-⟩ := hS.cells
 go_wp2_with fail
 clear k0_0 k0_1 k0_2 k1_0 k1_1 k1_2
 refine (mul_rat s_b s_a a_b d_b a_a d_a n_b m_b n_a m_a c_b e_b c_a e_a _ _ _ (hF ⟨s_b,a_b,n_b,d_b,m_b,y⟩ (by simp)) (hF ⟨s_a,a_a,n_a,d_a,m_a,x⟩ (by simp))).mono ?_
 rintro en w11 ⟨hp,hb⟩
 have hB : Bd 320 (y * x) := ((unhide HBY).mul (unhide HBX)).mono (by omega)
 obtain ⟨s_q,a_q,n_q,c_q,d_q,m_q,e_q,rfl,hq⟩ := hp.fq (hB.ok (by omega)).1 (hB.ok (by omega)).2
 have HB_q := hide hB
 clear hp hB
 replace hS := (hS.kept hb).alloc #[.bool s_q,.slice a_q n_q c_q,.slice d_q m_q e_q] 29
 replace hF := ((hF.kept hb).cons hq).kept (gr_alloc w11 (.cells #[.bool s_q,.slice a_q n_q c_q,.slice d_q m_q e_q] 29))
 clear hb hq
 obtain ⟨-,⟨k0_0,k0_1,k0_2,-⟩,-,-,-,-,-,⟨k1_0,k1_1,k1_2,-⟩,-⟩ := hS.cells
 go_wp2_with fail
 clear k0_0 k0_1 k0_2 k1_0 k1_1 k1_2
 refine (mul_rat s_p s_c a_p d_p a_c d_c n_p m_p n_c m_c c_p e_p c_c e_c _ _ _ (hF ⟨s_p,a_p,n_p,d_p,m_p,(x * y)⟩ (by simp)) (hF ⟨s_c,a_c,n_c,d_c,m_c,z⟩ (by simp))).mono ?_
 rintro en w12 ⟨hp,hb⟩
 have hB : Bd 480 ((x * y) * z) := ((unhide HB_p).mul (unhide HBZ)).mono (by omega)
 obtain ⟨s_pc,a_pc,n_pc,c_pc,d_pc,m_pc,e_pc,rfl,hq⟩ := hp.fq (hB.ok (by omega)).1 (hB.ok (by omega)).2
 have HB_pc := hide hB
 clear hp hB
 replace hS := (hS.kept hb).alloc #[.bool s_pc,.slice a_pc n_pc c_pc,.slice d_pc m_pc e_pc] 29
 replace hF := ((hF.kept hb).cons hq).kept (gr_alloc w12 (.cells #[.bool s_pc,.slice a_pc n_pc c_pc,.slice d_pc m_pc e_pc] 29))
 clear hb hq
 obtain ⟨-,-,-,-,-,-,-,-,⟨k1_0,k1_1,k1_2,-⟩,⟨k0_0,k0_1,k0_2,-⟩,-⟩ := hS.cells
 go_wp2_with fail
 clear k0_0 k0_1 k0_2 k1_0 k1_1 k1_2
 refine (mul_rat s_b s_c a_b d_b a_c d_c n_b m_b n_c m_c c_b e_b c_c e_c _ _ _ (hF ⟨s_b,a_b,n_b,d_b,m_b,y⟩ (by simp)) (hF ⟨s_c,a_c,n_c,d_c,m_c,z⟩ (by simp))).mono ?_
 rintro en w13 ⟨hp,hb⟩
 have hB : Bd 320 (y * z) := ((unhide HBY).mul (unhide HBZ)).mono (by omega)
 obtain ⟨s_bcp,a_bcp,n_bcp,c_bcp,d_bcp,m_bcp,e_bcp,rfl,hq⟩ := hp.fq (hB.ok (by omega)).1 (hB.ok (by omega)).2
 have HB_bcp := hide hB
 clear hp hB
 replace hS := (hS.kept hb).alloc #[.bool s_bcp,.slice a_bcp n_bcp c_bcp,.slice d_bcp m_bcp e_bcp] 29
 replace hF := ((hF.kept hb).cons hq).kept (gr_alloc w13 (.cells #[.bool s_bcp,.slice a_bcp n_bcp c_bcp,.slice d_bcp m_bcp e_bcp] 29))
 clear hb hq
 obtain ⟨⟨k1_0,k1_1,k1_2,-⟩,-,-,-,-,-,-,-,-,-,-,⟨k0_0,k0_1,k0_2,-⟩,-⟩ := hS.cells
 go_wp2_with fail
 clear k0_0 k0_1 k0_2 k1_0 k1_1 k1_2
 refine (mul_rat s_a s_bcp a_a d_a a_bcp d_bcp n_a m_a n_bcp m_bcp c_a e_a c_bcp e_bcp _ _ _ (hF ⟨s_a,a_a,n_a,d_a,m_a,x⟩ (by simp)) (hF ⟨s_bcp,a_bcp,n_bcp,d_bcp,m_bcp,(y * z)⟩ (by simp))).mono ?_
 rintro en w14 ⟨hp,hb⟩
 have hB : Bd 480 (x * (y * z)) := ((unhide HBX).mul (unhide HB_bcp)).mono (by omega)
 obtain ⟨s_apq,a_apq,n_apq,c_apq,d_apq,m_apq,e_apq,rfl,hq⟩ := hp.fq (hB.ok (by omega)).1 (hB.ok (by omega)).2
 have HB_apq := hide hB
 clear hp hB
 replace hS := (hS.kept hb).alloc #[.bool s_apq,.slice a_apq n_apq c_apq,.slice d_apq m_apq e_apq] 29
 replace hF := ((hF.kept hb).cons hq).kept (gr_alloc w14 (.cells #[.bool s_apq,.slice a_apq n_apq c_apq,.slice d_apq m_apq e_apq] 29))
 clear hb hq
 obtain ⟨-,-,-,-,-,-,-,-,-,⟨k0_0,k0_1,k0_2,-⟩,⟨k1_0,k1_1,k1_2,-⟩,-⟩ := hS.cells
 go_wp2_with fail
 clear k0_0 k0_1 k0_2 k1_0 k1_1 k1_2
 refine (mul_rat s_ab s_c a_ab d_ab a_c d_c n_ab m_ab n_c m_c c_ab e_ab c_c e_c _ _ _ (hF ⟨s_ab,a_ab,n_ab,d_ab,m_ab,(x + y)⟩ (by simp)) (hF ⟨s_c,a_c,n_c,d_c,m_c,z⟩ (by simp))).mono ?_
 rintro en w15 ⟨hp,hb⟩
 have hB : Bd 481 ((x + y) * z) := ((unhide HB_ab).mul (unhide HBZ)).mono (by omega)
 obtain ⟨s_left,a_left,n_left,c_left,d_left,m_left,e_left,rfl,hq⟩ := hp.fq (hB.ok (by omega)).1 (hB.ok (by omega)).2
 have HB_left := hide hB
 clear hp hB
 replace hS := (hS.kept hb).alloc #[.bool s_left,.slice a_left n_left c_left,.slice d_left m_left e_left] 29
 replace hF := ((hF.kept hb).cons hq).kept (gr_alloc w15 (.cells #[.bool s_left,.slice a_left n_left c_left,.slice d_left m_left e_left] 29))
 clear hb hq
 obtain ⟨-,-,-,-,-,-,-,-,-,-,-,⟨k1_0,k1_1,k1_2,-⟩,-,⟨k0_0,k0_1,k0_2,-⟩,-⟩ := hS.cells
 go_wp2_with fail
 clear k0_0 k0_1 k0_2 k1_0 k1_1 k1_2
 refine (mul_rat s_a s_c a_a d_a a_c d_c n_a m_a n_c m_c c_a e_a c_c e_c _ _ _ (hF ⟨s_a,a_a,n_a,d_a,m_a,x⟩ (by simp)) (hF ⟨s_c,a_c,n_c,d_c,m_c,z⟩ (by simp))).mono ?_
 rintro en w16 ⟨hp,hb⟩
 have hB : Bd 320 (x * z) := ((unhide HBX).mul (unhide HBZ)).mono (by omega)
 obtain ⟨s_ac,a_ac,n_ac,c_ac,d_ac,m_ac,e_ac,rfl,hq⟩ := hp.fq (hB.ok (by omega)).1 (hB.ok (by omega)).2
 have HB_ac := hide hB
 clear hp hB
 replace hS := (hS.kept hb).alloc #[.bool s_ac,.slice a_ac n_ac c_ac,.slice d_ac m_ac e_ac] 29
 replace hF := ((hF.kept hb).cons hq).kept (gr_alloc w16 (.cells #[.bool s_ac,.slice a_ac n_ac c_ac,.slice d_ac m_ac e_ac] 29))
 clear hb hq
 obtain ⟨⟨k0_0,k0_1,k0_2,-⟩,-,-,⟨k1_0,k1_1,k1_2,-⟩,-⟩ := hS.cells
 go_wp2_with fail
 clear k0_0 k0_1 k0_2 k1_0 k1_1 k1_2
 refine (add_rat s_ac s_bcp a_ac d_ac a_bcp d_bcp n_ac m_ac n_bcp m_bcp c_ac e_ac c_bcp e_bcp _ _ _ (hF ⟨s_ac,a_ac,n_ac,d_ac,m_ac,(x * z)⟩ (by simp)) (hF ⟨s_bcp,a_bcp,n_bcp,d_bcp,m_bcp,(y * z)⟩ (by simp))).mono ?_
 rintro en w17 ⟨hp,hb⟩
 have hB : Bd 641 ((x * z) + (y * z)) := ((unhide HB_ac).add (unhide HB_bcp)).mono (by omega)
 obtain ⟨s_right,a_right,n_right,c_right,d_right,m_right,e_right,rfl,hq⟩ := hp.fq (hB.ok (by omega)).1 (hB.ok (by omega)).2
 have HB_right := hide hB
 clear hp hB
 replace hS := (hS.kept hb).alloc #[.bool s_right,.slice a_right n_right c_right,.slice d_right m_right e_right] 29
 replace hF := ((hF.kept hb).cons hq).kept (gr_alloc w17 (.cells #[.bool s_right,.slice a_right n_right c_right,.slice d_right m_right e_right] 29))
 clear hb hq
 obtain ⟨-,-,-,-,-,-,-,-,-,-,-,-,⟨k0_0,k0_1,k0_2,-⟩,-,⟨k1_0,k1_1,k1_2,-⟩,-⟩ := hS.cells
 go_wp2_with fail
 clear k0_0 k0_1 k0_2 k1_0 k1_1 k1_2
 refine (sub_rat s_ab s_b a_ab d_ab a_b d_b n_ab m_ab n_b m_b c_ab e_ab c_b e_b _ _ _ (hF ⟨s_ab,a_ab,n_ab,d_ab,m_ab,(x + y)⟩ (by simp)) (hF ⟨s_b,a_b,n_b,d_b,m_b,y⟩ (by simp))).mono ?_
 rintro en w18 ⟨hp,hb⟩
 have hB : Bd 482 ((x + y) - y) := ((unhide HB_ab).sub (unhide HBY)).mono (by omega)
 obtain ⟨s_back,a_back,n_back,c_back,d_back,m_back,e_back,rfl,hq⟩ := hp.fq (hB.ok (by omega)).1 (hB.ok (by omega)).2
 have HB_back := hide hB
 clear hp hB
 replace hS := (hS.kept hb).alloc #[.bool s_back,.slice a_back n_back c_back,.slice d_back m_back e_back] 29
 replace hF := ((hF.kept hb).cons hq).kept (gr_alloc w18 (.cells #[.bool s_back,.slice a_back n_back c_back,.slice d_back m_back e_back] 29))
 clear hb hq
 obtain ⟨-,-,-,-,-,-,-,-,-,-,-,-,⟨k1_0,k1_1,k1_2,-⟩,⟨k0_0,k0_1,k0_2,-⟩,-⟩ := hS.cells
 go_wp2_with fail
 clear k0_0 k0_1 k0_2 k1_0 k1_1 k1_2
 refine (lawSame_rat s_ab s_ba a_ab d_ab a_ba d_ba n_ab m_ab n_ba m_ba c_ab e_ab c_ba e_ba _ _ _ (hF ⟨s_ab,a_ab,n_ab,d_ab,m_ab,(x + y)⟩ (by simp)) (hF ⟨s_ba,a_ba,n_ba,d_ba,m_ba,(y + x)⟩ (by simp)) (Rat.add_comm _ _)).mono ?_
 rintro en w19 ⟨rfl,hb⟩
 replace hS := hS.kept hb
 replace hF := hF.kept hb
 clear hb
 obtain ⟨-,-,-,-,-,-,-,-,-,⟨k1_0,k1_1,k1_2,-⟩,-,⟨k0_0,k0_1,k0_2,-⟩,-⟩ := hS.cells
 go_wp2_with fail
 clear k0_0 k0_1 k0_2 k1_0 k1_1 k1_2
 refine (lawSame_rat s_abc s_also a_abc d_abc a_also d_also n_abc m_abc n_also m_also c_abc e_abc c_also e_also _ _ _ (hF ⟨s_abc,a_abc,n_abc,d_abc,m_abc,((x + y) + z)⟩ (by simp)) (hF ⟨s_also,a_also,n_also,d_also,m_also,(x + (y + z))⟩ (by simp)) (Rat.add_assoc _ _ _)).mono ?_
 rintro en w20 ⟨rfl,hb⟩
 replace hS := hS.kept hb
 replace hF := hF.kept hb
 clear hb
 obtain ⟨-,-,-,-,-,-,-,⟨k1_0,k1_1,k1_2,-⟩,⟨k0_0,k0_1,k0_2,-⟩,-⟩ := hS.cells
 go_wp2_with fail
 clear k0_0 k0_1 k0_2 k1_0 k1_1 k1_2
 refine (lawSame_rat s_p s_q a_p d_p a_q d_q n_p m_p n_q m_q c_p e_p c_q e_q _ _ _ (hF ⟨s_p,a_p,n_p,d_p,m_p,(x * y)⟩ (by simp)) (hF ⟨s_q,a_q,n_q,d_q,m_q,(y * x)⟩ (by simp)) (Rat.mul_comm _ _)).mono ?_
 rintro en w21 ⟨rfl,hb⟩
 replace hS := hS.kept hb
 replace hF := hF.kept hb
 clear hb
 obtain ⟨-,-,-,-,⟨k1_0,k1_1,k1_2,-⟩,-,⟨k0_0,k0_1,k0_2,-⟩,-⟩ := hS.cells
 go_wp2_with fail
 clear k0_0 k0_1 k0_2 k1_0 k1_1 k1_2
 refine (lawSame_rat s_pc s_apq a_pc d_pc a_apq d_apq n_pc m_pc n_apq m_apq c_pc e_pc c_apq e_apq _ _ _ (hF ⟨s_pc,a_pc,n_pc,d_pc,m_pc,((x * y) * z)⟩ (by simp)) (hF ⟨s_apq,a_apq,n_apq,d_apq,m_apq,(x * (y * z))⟩ (by simp)) (Rat.mul_assoc _ _ _)).mono ?_
 rintro en w22 ⟨rfl,hb⟩
 replace hS := hS.kept hb
 replace hF := hF.kept hb
 clear hb
 obtain ⟨-,⟨k1_0,k1_1,k1_2,-⟩,-,⟨k0_0,k0_1,k0_2,-⟩,-⟩ := hS.cells
 go_wp2_with fail
 clear k0_0 k0_1 k0_2 k1_0 k1_1 k1_2
 refine (lawSame_rat s_left s_right a_left d_left a_right d_right n_left m_left n_right m_right c_left e_left c_right e_right _ _ _ (hF ⟨s_left,a_left,n_left,d_left,m_left,((x + y) * z)⟩ (by simp)) (hF ⟨s_right,a_right,n_right,d_right,m_right,((x * z) + (y * z))⟩ (by simp)) (Rat.add_mul _ _ _)).mono ?_
 rintro en w23 ⟨rfl,hb⟩
 replace hS := hS.kept hb
 replace hF := hF.kept hb
 clear hb
 obtain ⟨⟨k0_0,k0_1,k0_2,-⟩,-,-,-,-,-,-,-,-,-,-,-,-,-,-,-,⟨k1_0,k1_1,k1_2,-⟩,-⟩ := hS.cells
 go_wp2_with fail
 clear k0_0 k0_1 k0_2 k1_0 k1_1 k1_2
 refine (lawSame_rat s_back s_a a_back d_back a_a d_a n_back m_back n_a m_a c_back e_back c_a e_a _ _ _ (hF ⟨s_back,a_back,n_back,d_back,m_back,((x + y) - y)⟩ (by simp)) (hF ⟨s_a,a_a,n_a,d_a,m_a,x⟩ (by simp)) (Rat.add_sub_cancel)).mono ?_
 rintro en w24 ⟨rfl,hb⟩
 replace hS := hS.kept hb
 replace hF := hF.kept hb
 clear hb
 obtain ⟨-,-,-,-,-,-,-,-,⟨k0_0,k0_1,k0_2,-⟩,-,-,-,-,-,-,⟨k1_0,k1_1,k1_2,-⟩,-⟩ := hS.cells
 go_wp2_with fail
 clear k0_0 k0_1 k0_2 k1_0 k1_1 k1_2
 by_cases hy0 : n_b = 0
 ·refine (div0_rat s_p s_b a_p d_p a_b d_b n_p m_p n_b m_b c_p e_p c_b e_b _ _ _ (hF ⟨s_p,a_p,n_p,d_p,m_p,(x * y)⟩ (by simp)) (hF ⟨s_b,a_b,n_b,d_b,m_b,y⟩ (by simp)) (decide_eq_true hy0)).mono ?_
  rintro en w25 ⟨rfl,hb⟩
  subst hy0
  replace hS := (hS.kept hb).alloc #[.bool false,.slice none 0 0,.slice none 0 0] 29
  obtain ⟨-,-,-,-,-,-,-,-,-,-,-,-,-,-,-,-,⟨k0,k1,k2,-⟩,-⟩ := hS.cells
  go_wp2
  go_ret
  exact ⟨rfl,hS.fr⟩
 ·have hyn : y.num ≠ 0 := fun e => hy0 ((hF ⟨s_b,a_b,n_b,d_b,m_b,y⟩ (by simp)).num.zero.2 (by rw [e]; rfl))
  refine (div_rat s_p s_b a_p d_p a_b d_b n_p m_p n_b m_b c_p e_p c_b e_b _ _ _ (hF ⟨s_p,a_p,n_p,d_p,m_p,(x * y)⟩ (by simp)) (hF ⟨s_b,a_b,n_b,d_b,m_b,y⟩ (by simp)) (decide_eq_false hy0)).mono ?_
  rintro en w25 ⟨hp,hb⟩
  have hB := (unhide HB_p).div (unhide HBY) hyn
  have hxa : x * y / y = x := Rat.mul_div_cancel (fun e => hyn (by rw [e]; rfl))
  obtain ⟨s_dd,a_dd,n_dd,c_dd,d_dd,m_dd,e_dd,rfl,hq⟩ := hp.fq (hB.ok (by omega)).1 (hB.ok (by omega)).2
  clear hp hB
  have hni : ((n_b : Int) == 0) = false := by simp; omega
  replace hS := (hS.kept hb).alloc #[.bool s_dd,.slice a_dd n_dd c_dd,.slice d_dd m_dd e_dd] 29
  replace hF := ((hF.kept hb).cons hq).kept (gr_alloc w25 (.cells #[.bool s_dd,.slice a_dd n_dd c_dd,.slice d_dd m_dd e_dd] 29))
  clear hb hq
  obtain ⟨⟨k0_0,k0_1,k0_2,-⟩,-,-,-,-,-,-,-,-,-,-,-,-,-,-,-,⟨k2_0,k2_1,k2_2,-⟩,⟨k1_0,k1_1,k1_2,-⟩,-⟩ := hS.cells
  go_wp2_with fail
  clear k0_0 k0_1 k0_2 k1_0 k1_1 k1_2 k2_0 k2_1 k2_2
  refine (lawSame_rat s_dd s_a a_dd d_dd a_a d_a n_dd m_dd n_a m_a c_dd e_dd c_a e_a _ _ _ (hF ⟨s_dd,a_dd,n_dd,d_dd,m_dd,(x * y / y)⟩ (by simp)) (hF ⟨s_a,a_a,n_a,d_a,m_a,x⟩ (by simp)) hxa).mono ?_
  rintro en w26 ⟨rfl,hb⟩
  replace hS := hS.kept hb
  go_wp2
  go_ret
  exact ⟨rfl,hS.fr⟩
end Go.Proofs.YtdfjbcdaccaooaaGreat
