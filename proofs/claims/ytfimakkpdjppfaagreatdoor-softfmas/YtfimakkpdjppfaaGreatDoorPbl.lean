/- Of what SoftFmasRow stands on: SkKinds SqOp. -/
import Derived.Test.YtfimakkpdjppfaaGreatDoorPbi
import Derived.Test.YtfimakkpdjppfaaGreatDoorPbk
import Derived.Test.YtfimakkpdjppfaaGreatDoorPbg
import Derived.Test.YtfimakkpdjppfaaGreatDoorPax
import Derived.Test.YtfimakkpdjppfaaGreatDoorPbf
namespace Go.Proofs.YtfimakkpdjppfaaGreatDoor
open Go.RowKit
set_option maxHeartbeats 8000000
set_option maxRecDepth 20000
inductive Kr:Kd→Bool→Bool→Bool→Bool→Bool→Nat→Int→Prop
 | nanq (g:Bool):Kr (.nan 0) g true true false false 0 0
 | nanl (g:Bool):Kr (.nan 16) g true false false false 0 0
 | inf (g:Bool):Kr (.inf g 0) g false false true false 0 0
 | zero (g:Bool):Kr (.zero g 0) g false false false false 0 0
 | num (g:Bool) (m:Nat) (x:Int) (hm:0 < m) (ho:OkD g m x) (hx:-2048≤x) (hk:m * 2 ^ (x - -2048).toNat < 2 ^ 3100):Kr (.num g m x 0) g false false false g m x
theorem flt_kr {E F S I b:Nat} (h:Fm E F S I) (hb:b < 2 * S):∃ (k:Kd) (g n q i s:Bool) (m:Nat) (x:Int),FlOf E F b k∧OpR E F b g n q i s m x∧Kr k g n q i s m x∧g = decide (S≤b)∧(i = true→b = infS S I g):=by
 have h0:=h.fo
 have hB:=Bt.of E F b (h.bt hb)
 have hneg:decide (b / 2 ^ (F+E) = 1) = decide (S≤b):=by
  rw [← h.hS]
  rcases div_two h.pos hb with ⟨h1,h2,-⟩|⟨h1,h2,-⟩
  ·simp [h2]; omega
  ·simp [h2]; omega
 rw [hneg] at hB
 generalize decide (S≤b) = neg at hB hneg
 generalize b % 2 ^ (F+E) / 2 ^ F = ex at hB
 generalize b % 2 ^ F = fr at hB
 obtain ⟨B,hBi⟩:∃ B,B = 2 ^ (E - 1) - 1:=⟨_,rfl⟩
 have HBi:=hide hBi
 have hE4:=two_lt h0.e2
 have HS:Tel 55 #[.agg #[.int .i64 E,.int .i64 F],.int .u64 (b:Int)] (.tuple #[.agg #[.bool neg,.int .i64 ex,.int .u64 fr],.int .i64 0]):=fun W=>Split_ok E F b ex fr neg h0 hB W
 have HC:∀ c:Nat,cls ex fr (2 ^ E - 1) = c→Tel 54 #[.agg #[.int .i64 E,.int .i64 F],.int .u64 (b:Int)] (.tuple #[.int .u8 (c:Int),.int .i64 0]):=fun c hc W=>by
  have:=Class_ok E F b ex fr neg h0 hB _ (hide rfl) W
  rw [hc] at this
  exact this
 by_cases hx:ex+1 = 2 ^ E
 ·by_cases hf:fr = 0
  ·have hc:cls ex fr (2 ^ E - 1) = 4:=by unfold cls; rw [if_neg (by omega),if_neg (by omega),if_neg (by omega),if_pos hf]
   refine ⟨.inf neg 0,neg,false,false,true,false,0,0,flOf_one (fun _ _=>rfl) (fun W=>floatOf_inf E F b ex fr neg (HC 4 hc) HS W),opR_one (fun W=>open_inf E F b ex fr neg h0 (hide hB) hx hf W),.inf neg,rfl,fun _=>?_⟩
   have heq:=hB.eq
   rw [hf,show ex = 2 ^ E - 1 from by omega,← h.hI,← h.hS] at heq
   unfold infS
   cases neg <;> simp at heq ⊢ <;> omega
  ·have hc:cls ex fr (2 ^ E - 1) = 5:=by unfold cls; rw [if_neg (by omega),if_neg (by omega),if_neg (by omega),if_neg hf]
   have hfl:=hB.fr_lt
   have hpow:2 ^ F = 2 * 2 ^ (F - 1):=by rw [← Nat.pow_succ',Nat.succ_eq_add_one,Nat.sub_add_cancel h0.f1]
   have hp1:=pow_pos2 (F - 1)
   by_cases hq:2 ^ (F - 1)≤fr
   ·have hd:fr / 2 ^ (F - 1) = 1:=by rw [Nat.div_eq_iff hp1]; omega
    have HP:Tel 76 #[.agg #[.int .i64 E,.int .i64 F],.int .u64 (b:Int)] (.tuple #[.int .u64 ((fr % 2 ^ (F - 1):Nat):Int),.bool true,.int .i64 0]):=fun W=>Payload_nan E F b ex fr neg h0 hB _ true hc (hide rfl) (hide (by simp [hq])) W
    exact ⟨.nan 0,neg,true,true,false,false,0,0,flOf_one (fun _ _=>rfl) (fun W=>floatOf_nan E F b ex fr neg (HC 5 hc) HS 0 (fun W=>noneOf_quiet E F b _ HP W) W),opR_one (fun W=>open_quiet E F b ex fr neg h0 (hide hB) hx (by omega) hd W),.nanq neg,rfl,fun c=>by cases c⟩
   ·have hd:fr / 2 ^ (F - 1) = 0:=Nat.div_eq_of_lt (by omega)
    have HP:Tel 76 #[.agg #[.int .i64 E,.int .i64 F],.int .u64 (b:Int)] (.tuple #[.int .u64 ((fr % 2 ^ (F - 1):Nat):Int),.bool false,.int .i64 0]):=fun W=>Payload_nan E F b ex fr neg h0 hB _ false hc (hide rfl) (hide (by simp [hq])) W
    exact ⟨.nan 16,neg,true,false,false,false,0,0,flOf_one (fun _ _=>rfl) (fun W=>floatOf_nan E F b ex fr neg (HC 5 hc) HS 16 (fun W=>noneOf_loud E F b _ HP W) W),opR_one (fun W=>open_loud E F b ex fr neg h0 (hide hB) hx (by omega) hd W),.nanl neg,rfl,fun c=>by cases c⟩
 have hfin:ex+1 < 2 ^ E:=by have:=hB.ex_lt; omega
 by_cases hz:ex = 0∧fr = 0
 ·obtain ⟨rfl,rfl⟩:=hz
  exact ⟨.zero neg 0,neg,false,false,false,false,0,0,flOf_one (fun _ _=>rfl) (fun W=>floatOf_zero E F b 0 0 neg (HC 1 (by unfold cls; rw [if_pos ⟨rfl,rfl⟩])) HS W),
   fun W=>open_fin E F b 0 0 neg h0 (hide hB) hfin false 0 0 (hide fun W=>rValue_zero E F B b neg h0 HBi hB W) W,.zero neg,rfl,fun c=>by cases c⟩
 obtain ⟨M,z,xe,hW⟩:=Wo.ex (B:=B) hfin hB.fr_lt hz
 have hzl:=hW.zle
 have hF:=h0.f52
 have hr:=hW.range h0 HBi
 have hod:=hW.odd
 have hM0:=hW.pos
 have hc:∃ c:Nat,cls ex fr (2 ^ E - 1) = c∧(c = 2∨c = 3):=by
  unfold cls
  by_cases he:ex = 0
  ·exact ⟨2,by rw [if_neg hz,if_pos he],Or.inl rfl⟩
  ·exact ⟨3,by rw [if_neg hz,if_neg he,if_pos (by omega)],Or.inr rfl⟩
 obtain ⟨c,hc1,hc2⟩:=hc
 refine ⟨.num neg (M / 2 ^ z) (xe+(z:Int)) 0,neg,false,false,false,neg,M / 2 ^ z,xe+(z:Int),?_,?_,.num neg _ _ (Nat.pos_of_ne_zero (fun c=>by rw [c] at hod; exact absurd hod.1 (by decide))) (Or.inr ⟨hod.1,by omega,by omega⟩) (by omega) ?_,rfl,fun c=>by cases c⟩
 ·intro W hT
  exact floatOf_num E F b c ex fr neg (HC c hc1) HS (by simp; omega) (by simp; omega) (by simp; omega) neg (M / 2 ^ z) (xe+(z:Int)) (hide (vals_wo h0 HBi hB hW)) W hT
 ·refine fun W=>open_fin E F b ex fr neg h0 (hide hB) hfin neg (M / 2 ^ z) (xe+(z:Int)) (hide fun W=>?_) W
  rcases hW.part with ⟨rfl,rfl,hf,rfl⟩|⟨h1,hM,rfl⟩
  ·exact rValue_small E F B b M z neg h0 HBi hB W hf hW.tz (by omega)
  ·have:=rValue_normal E F B b ex fr M z neg h0 HBi hB W h1 hfin hM hW.tz (by omega)
   rw [show ((ex:Int) - (B:Int) - (F:Int)) = 1 - (B:Int) - (F:Int)+((ex:Int) - 1) from by omega] at this
   exact this
 ·obtain ⟨u,hu⟩:∃ u:Nat,xe - -2048 = (u:Int):=⟨(xe - -2048).toNat,by omega⟩
  rw [show (xe+(z:Int) - -2048).toNat = z+u from by omega,Nat.pow_add,← Nat.mul_assoc,hod.2]
  have h1:M * 2 ^ u < 2 ^ (F+1) * 2 ^ u:=Nat.mul_lt_mul_of_pos_right hW.lt (pow_pos2 _)
  rw [← Nat.pow_add] at h1
  exact Nat.lt_of_lt_of_le h1 (pow_bound (n:=F+1+u) (k:=3100) (by omega))
theorem operate3_err1 (E F a b d:Int) (md fd p pm:Nat) (c:Int) (hc:(c == (0:Int)) = false) (H0:Tel 32 #[.agg #[.int .i64 E,.int .i64 F],.int .u64 a] (.int .i64 c)) (w:World) (hp:w.heap[p]? = some (.cells #[.int .u64 a,.int .u64 b,.int .u64 d] 24 (0,0)))  :
  Calls Tryz.prog 7 #[.agg #[.int .i64 E,.int .i64 F],.int .u8 (md:Int),.func (Fn.func fd) #[] #[.pointer (some ⟨pm,0,none⟩)],.slice (some ⟨p,0,none⟩) 3 3] w fun e w'=>e = .returned (.tuple #[.int .u64 0,.int .u8 0,.int .i64 c])∧Below w.heap.size w w':=by
 go_enter Tryz.func7,Tryz.ntmps7
 have hS:Fs w w [⟨p,#[.int .u64 a,.int .u64 b,.int .u64 d],24⟩]:=⟨fun x hx=>by simp only [List.mem_cons,List.not_mem_nil,or_false] at hx; rcases hx with rfl; exact hp,Below.refl _ _⟩
 have hol0:p < w.heap.size:=block_lt hp
 clear hp
 replace hS:=hS.alloc #[.int .i64 E,.int .i64 F] 23
 obtain ⟨⟨ya,yb,-⟩,⟨yc,yd,ye,-⟩,-⟩:=hS.cells
 go_wp2_with fail
 refine (scheck3_err1 E F c hc p a b d H0 _ (hS.bx ⟨p,#[.int .u64 a,.int .u64 b,.int .u64 d],24⟩ (by simp))).mono ?_
 rintro e w1 ⟨rfl,hb1⟩
 replace hS:=hS.kept hb1
 clear ya yb yc yd ye
 obtain ⟨⟨yf,yg,-⟩,⟨yh,yi,yj,-⟩,-⟩:=hS.cells
 go_wp2
 go_ret3
 exact ⟨rfl,hS.fr⟩
theorem operate3_err2 (E F a b d:Int) (md fd p pm:Nat) (c:Int) (hc:(c == (0:Int)) = false) (H0:Tel 32 #[.agg #[.int .i64 E,.int .i64 F],.int .u64 a] (.int .i64 0)) (H1:Tel 32 #[.agg #[.int .i64 E,.int .i64 F],.int .u64 b] (.int .i64 c)) (w:World) (hp:w.heap[p]? = some (.cells #[.int .u64 a,.int .u64 b,.int .u64 d] 24 (0,0)))  :
  Calls Tryz.prog 7 #[.agg #[.int .i64 E,.int .i64 F],.int .u8 (md:Int),.func (Fn.func fd) #[] #[.pointer (some ⟨pm,0,none⟩)],.slice (some ⟨p,0,none⟩) 3 3] w fun e w'=>e = .returned (.tuple #[.int .u64 0,.int .u8 0,.int .i64 c])∧Below w.heap.size w w':=by
 go_enter Tryz.func7,Tryz.ntmps7
 have hS:Fs w w [⟨p,#[.int .u64 a,.int .u64 b,.int .u64 d],24⟩]:=⟨fun x hx=>by simp only [List.mem_cons,List.not_mem_nil,or_false] at hx; rcases hx with rfl; exact hp,Below.refl _ _⟩
 have hol0:p < w.heap.size:=block_lt hp
 clear hp
 replace hS:=hS.alloc #[.int .i64 E,.int .i64 F] 23
 obtain ⟨⟨ya,yb,-⟩,⟨yc,yd,ye,-⟩,-⟩:=hS.cells
 go_wp2_with fail
 refine (scheck3_err2 E F c hc p a b d H0 H1 _ (hS.bx ⟨p,#[.int .u64 a,.int .u64 b,.int .u64 d],24⟩ (by simp))).mono ?_
 rintro e w1 ⟨rfl,hb1⟩
 replace hS:=hS.kept hb1
 clear ya yb yc yd ye
 obtain ⟨⟨yf,yg,-⟩,⟨yh,yi,yj,-⟩,-⟩:=hS.cells
 go_wp2
 go_ret3
 exact ⟨rfl,hS.fr⟩
theorem operate3_err3 (E F a b d:Int) (md fd p pm:Nat) (c:Int) (hc:(c == (0:Int)) = false) (H0:Tel 32 #[.agg #[.int .i64 E,.int .i64 F],.int .u64 a] (.int .i64 0)) (H1:Tel 32 #[.agg #[.int .i64 E,.int .i64 F],.int .u64 b] (.int .i64 0)) (H2:Tel 32 #[.agg #[.int .i64 E,.int .i64 F],.int .u64 d] (.int .i64 c)) (w:World) (hp:w.heap[p]? = some (.cells #[.int .u64 a,.int .u64 b,.int .u64 d] 24 (0,0)))  :
  Calls Tryz.prog 7 #[.agg #[.int .i64 E,.int .i64 F],.int .u8 (md:Int),.func (Fn.func fd) #[] #[.pointer (some ⟨pm,0,none⟩)],.slice (some ⟨p,0,none⟩) 3 3] w fun e w'=>e = .returned (.tuple #[.int .u64 0,.int .u8 0,.int .i64 c])∧Below w.heap.size w w':=by
 go_enter Tryz.func7,Tryz.ntmps7
 have hS:Fs w w [⟨p,#[.int .u64 a,.int .u64 b,.int .u64 d],24⟩]:=⟨fun x hx=>by simp only [List.mem_cons,List.not_mem_nil,or_false] at hx; rcases hx with rfl; exact hp,Below.refl _ _⟩
 have hol0:p < w.heap.size:=block_lt hp
 clear hp
 replace hS:=hS.alloc #[.int .i64 E,.int .i64 F] 23
 obtain ⟨⟨ya,yb,-⟩,⟨yc,yd,ye,-⟩,-⟩:=hS.cells
 go_wp2_with fail
 refine (scheck3_err3 E F c hc p a b d H0 H1 H2 _ (hS.bx ⟨p,#[.int .u64 a,.int .u64 b,.int .u64 d],24⟩ (by simp))).mono ?_
 rintro e w1 ⟨rfl,hb1⟩
 replace hS:=hS.kept hb1
 clear ya yb yc yd ye
 obtain ⟨⟨yf,yg,-⟩,⟨yh,yi,yj,-⟩,-⟩:=hS.cells
 go_wp2
 go_ret3
 exact ⟨rfl,hS.fr⟩
theorem operate3_mode (E F a b d:Int) (md fd p pm:Nat) (st:ByteArray) (H0:Tel 32 #[.agg #[.int .i64 E,.int .i64 F],.int .u64 a] (.int .i64 0)) (H1:Tel 32 #[.agg #[.int .i64 E,.int .i64 F],.int .u64 b] (.int .i64 0)) (H2:Tel 32 #[.agg #[.int .i64 E,.int .i64 F],.int .u64 d] (.int .i64 0)) (HM:Tel 18 #[.int .u8 (md:Int)] (.tuple #[.string st,.int .i64 7])) (w:World) (hp:w.heap[p]? = some (.cells #[.int .u64 a,.int .u64 b,.int .u64 d] 24 (0,0)))  :
  Calls Tryz.prog 7 #[.agg #[.int .i64 E,.int .i64 F],.int .u8 (md:Int),.func (Fn.func fd) #[] #[.pointer (some ⟨pm,0,none⟩)],.slice (some ⟨p,0,none⟩) 3 3] w fun e w'=>e = .returned (.tuple #[.int .u64 0,.int .u8 0,.int .i64 7])∧Below w.heap.size w w':=by
 go_enter Tryz.func7,Tryz.ntmps7
 have hS:Fs w w [⟨p,#[.int .u64 a,.int .u64 b,.int .u64 d],24⟩]:=⟨fun x hx=>by simp only [List.mem_cons,List.not_mem_nil,or_false] at hx; rcases hx with rfl; exact hp,Below.refl _ _⟩
 have hol0:p < w.heap.size:=block_lt hp
 clear hp
 replace hS:=hS.alloc #[.int .i64 E,.int .i64 F] 23
 obtain ⟨⟨ya,yb,-⟩,⟨yc,yd,ye,-⟩,-⟩:=hS.cells
 go_wp2_with fail
 refine (scheck3_ok E F p a b d H0 H1 H2 _ (hS.bx ⟨p,#[.int .u64 a,.int .u64 b,.int .u64 d],24⟩ (by simp))).mono ?_
 rintro e w1 ⟨rfl,hb1⟩
 replace hS:=hS.kept hb1
 clear ya yb yc yd ye
 obtain ⟨⟨yf,yg,-⟩,⟨yh,yi,yj,-⟩,-⟩:=hS.cells
 go_wp2_with fail
 refine (HM _).mono ?_
 rintro e w2 ⟨rfl,hb2⟩
 replace hS:=hS.kept hb2
 clear yf yg yh yi yj
 obtain ⟨⟨yk,yl,-⟩,⟨ym,yn,yo,-⟩,-⟩:=hS.cells
 go_wp2
 go_ret3
 exact ⟨rfl,hS.fr⟩
theorem operate3_plain (E F a b d : Int) (md fd p pm : Nat) (H0 : Tel 32 #[.agg #[.int .i64 E, .int .i64 F], .int .u64 a] (.int .i64 0)) (H1 : Tel 32 #[.agg #[.int .i64 E, .int .i64 F], .int .u64 b] (.int .i64 0)) (H2 : Tel 32 #[.agg #[.int .i64 E, .int .i64 F], .int .u64 d] (.int .i64 0)) (k0 k1 k2 : Kd) (HA : Hid (FlOf E F a k0)) (HB : Hid (FlOf E F b k1)) (HD : Hid (FlOf E F d k2)) (hmd : md ≤ 4) (hr : (k0.isNan || k1.isNan || k2.isNan) = false) (fr : Nat) (bb gg : Int) (t : TypeId) (y : Value)  (w : World) (hp : w.heap[p]? = some (.cells #[.int .u64 a, .int .u64 b, .int .u64 d] 24 (0, 0))) (hpm : w.heap[pm]? = some (.cells #[.int .u8 (md : Int)] 5 (0, 0))) (hT : Tb w) (hN : Nb w) (hcd : ∀ (args : Array Value) (w : World), (callFunc fd args).run Tryz.prog w = .ok (.enter fd args) w) (hcr : ∀ (args : Array Value) (w : World), (callFunc fr args).run Tryz.prog w = .ok (.enter fr args) w) (HDo : Hid (∀ (W : World) (q : Nat) (t0 t1 t2 : TypeId) (y0 y1 y2 : Value), Tb W → W.heap[q]? = some (.cells #[.iface t0 y0, .iface t1 y1, .iface t2 y2] 37 (0, 0)) → W.heap[pm]? = some (.cells #[.int .u8 (md : Int)] 5 (0, 0)) → Flt W (q + 1) (.iface t0 y0) k0 → Flt W (q + 1) (.iface t1 y1) k1 → Flt W (q + 1) (.iface t2 y2) k2 → Calls Tryz.prog fd #[.slice (some ⟨q, 0, none⟩) 3 3, .pointer (some ⟨pm, 0, none⟩)] W fun e w' => e = .returned (.iface t y) ∧ Below W.heap.size W w')) (hm : (∀ w : World, (method 301 t (y) "numeral/soft.rounded").run Tryz.prog w = .ok (fr, y) w)) (HRd : Hid (∀ W : World, Calls Tryz.prog fr #[y, .agg #[.int .i64 E, .int .i64 F], .int .u8 (md : Int)] W fun e w' => e = .returned (.tuple #[.int .u64 bb, .int .u8 gg, .int .i64 0]) ∧ Below W.heap.size W w')) :
  Calls Tryz.prog 7 #[.agg #[.int .i64 E,.int .i64 F],.int .u8 (md:Int),.func (Fn.func fd) #[] #[.pointer (some ⟨pm,0,none⟩)],.slice (some ⟨p,0,none⟩) 3 3] w fun e w'=>e = .returned (.tuple #[.int .u64 bb,.int .u8 gg,.int .i64 0])∧Below w.heap.size w w':=by
 have HT:=hide hT
 have HN:=hide hN
 have HNN:Hid (∀ (q:Nat) (v0 v1 v2:Value) (B:Nat) (W:World),W.heap[q]? = some (.cells #[v0,v1,v2] 37 (0,0))→Flt W B v0 k0→Flt W B v1 k1→Flt W B v2 k2→Calls Tryz.prog 20 #[.slice (some ⟨q,0,none⟩) 3 3] W fun e w'=>e = .returned (.tuple #[.agg #[.int .u8 (nn3 k0 k1 k2)],.bool false])∧Below W.heap.size W w'):=hide (fun q v0 v1 v2 B W h1 h2 h3 h4=>by have:=noNumber3 q v0 v1 v2 k0 k1 k2 B W h1 h2 h3 h4; rw [hr] at this; exact this)
 obtain ⟨fl,hfl⟩:∃ fl,nn3 k0 k1 k2 = fl:=⟨_,rfl⟩
 rw [hfl] at HNN
 clear hT hN hr hfl
 go_enter Tryz.func7,Tryz.ntmps7
 have hS:Fs w w [⟨p,#[.int .u64 a,.int .u64 b,.int .u64 d],24⟩,⟨pm,#[.int .u8 (md:Int)],5⟩]:=⟨fun x hx=>by simp only [List.mem_cons,List.not_mem_nil,or_false] at hx; rcases hx with rfl|rfl; exact hp; exact hpm,Below.refl _ _⟩
 have hol0:p < w.heap.size:=block_lt hp
 have hol1:pm < w.heap.size:=block_lt hpm
 clear hp hpm
 replace hS:=hS.alloc #[.int .i64 E,.int .i64 F] 23
 obtain ⟨⟨ya,yb,-⟩,⟨yc,yd,ye,-⟩,⟨yf,-⟩,-⟩:=hS.cells
 go_wp2_with fail
 refine (scheck3_ok E F p a b d H0 H1 H2 _ (hS.bx ⟨p,#[.int .u64 a,.int .u64 b,.int .u64 d],24⟩ (by simp))).mono ?_
 rintro e w1 ⟨rfl,hb1⟩
 replace hS:=hS.kept hb1
 clear ya yb yc yd ye yf
 obtain ⟨⟨yg,yh,-⟩,⟨yi,yj,yk,-⟩,⟨yl,-⟩,-⟩:=hS.cells
 go_wp2_with fail
 refine (name_ok md hmd _ ((unhide HN).kept hS.fr)).mono ?_
 rintro e w2 ⟨⟨st,rfl⟩,hb2⟩
 replace hS:=hS.kept hb2
 clear yg yh yi yj yk yl
 obtain ⟨⟨ym,yn,-⟩,⟨yo,yp,yq,-⟩,⟨yr,-⟩,-⟩:=hS.cells
 have hbx:w.heap.size < w2.heap.size:=block_lt (hS.bx ⟨w.heap.size,#[.int .i64 E,.int .i64 F],23⟩ (by simp))
 go_wp2_with fail
 refine (floatsOf3 E F p a b d k0 k1 k2 HA HB HD _ ((unhide HT).kept hS.fr) (hS.bx ⟨p,#[.int .u64 a,.int .u64 b,.int .u64 d],24⟩ (by simp))).mono ?_
 rintro e w3 ⟨⟨q,t0,y0,t1,y1,t2,y2,rfl,hqw,hq,g0,g1,g2⟩,hb3⟩
 replace hS:=hS.kept hb3
 clear ym yn yo yp yq yr
 obtain ⟨⟨ys,yt,-⟩,⟨yu,yv,yw,-⟩,⟨yx,-⟩,-⟩:=hS.cells
 have G0:Hid (Flt w3 (q+1) (.iface t0 y0) k0):=hide g0
 have G1:Hid (Flt w3 (q+1) (.iface t1 y1) k1):=hide g1
 have G2:Hid (Flt w3 (q+1) (.iface t2 y2) k2):=hide g2
 clear g0 g1 g2
 replace hS:Fs w w3 [⟨q,#[.iface t0 y0,.iface t1 y1,.iface t2 y2],37⟩,⟨w.heap.size,#[.int .i64 E,.int .i64 F],23⟩,⟨p,#[.int .u64 a,.int .u64 b,.int .u64 d],24⟩,⟨pm,#[.int .u8 (md:Int)],5⟩]:=⟨fun x hx=>by rcases List.mem_cons.1 hx with rfl|hx; exact hq; exact hS.bx x hx,hS.fr⟩
 clear hq ys yt yu yv yw yx
 obtain ⟨⟨yy,yz,y3,-⟩,⟨y4,y5,-⟩,⟨y6,y7,y8,-⟩,⟨y9,-⟩,-⟩:=hS.cells
 go_wp2_with fail
 refine (unhide HNN _ _ _ _ _ _ (hS.bx ⟨q,#[.iface t0 y0,.iface t1 y1,.iface t2 y2],37⟩ (by simp)) (unhide G0) (unhide G1) (unhide G2)).mono ?_
 rintro e w4 ⟨rfl,hb4⟩
 replace hS:=hS.kept hb4
 clear yy yz y3 y4 y5 y6 y7 y8 y9
 obtain ⟨⟨yba,ybb,ybc,-⟩,⟨ybd,ybe,-⟩,⟨ybf,ybg,ybh,-⟩,⟨ybi,-⟩,-⟩:=hS.cells
 replace G0:=hide ((unhide G0).kept hb4)
 replace G1:=hide ((unhide G1).kept hb4)
 replace G2:=hide ((unhide G2).kept hb4)
 have hltw4_0:q < w4.heap.size:=hS.lt 0 rfl
 have hltw4_1:w.heap.size < w4.heap.size:=hS.lt 1 rfl
 have hltw4_2:p < w4.heap.size:=hS.lt 2 rfl
 have hltw4_3:pm < w4.heap.size:=hS.lt 3 rfl
 obtain ⟨WV,hWV⟩:∃ WV,w4.alloc (.cells #[.int .u8 fl] 65) = WV:=⟨_,rfl⟩
 replace hS:=hS.alloc #[.int .u8 fl] 65
 rw [hWV] at hS
 replace G0:=hide (hWV▸(unhide G0).alloc (.cells #[.int .u8 fl] 65))
 replace G1:=hide (hWV▸(unhide G1).alloc (.cells #[.int .u8 fl] 65))
 replace G2:=hide (hWV▸(unhide G2).alloc (.cells #[.int .u8 fl] 65))
 clear yba ybb ybc ybd ybe ybf ybg ybh ybi
 obtain ⟨⟨ybj,-⟩,⟨ybk,ybl,ybm,-⟩,⟨ybn,ybo,-⟩,⟨ybp,ybq,ybr,-⟩,⟨ybs,-⟩,-⟩:=hS.cells
 go_wp2_with fail
 have hS3s:w.heap.size≤WV.heap.size:=hS.size
 have hs9:∀ x9:Nat×(Pk→World→Prop),x9∈([(12,fun _ W=>Flt W (q+1) (.iface t0 y0) k0),(13,fun _ W=>Flt W (q+1) (.iface t1 y1) k1),(14,fun _ W=>Flt W (q+1) (.iface t2 y2) k2)]:List (Nat×(Pk→World→Prop)))→∀ q9:Pk,St 0 (x9.2 q9):=by
  intro x hx q
  simp only [List.mem_cons,List.not_mem_nil,or_false] at hx
  rcases hx with rfl|rfl|rfl
  ·exact st_flt7 _ _ _
  ·exact st_flt7 _ _ _
  ·exact st_flt7 _ _ _
 have h09:∀ x9:Nat×(Pk→World→Prop),x9∈([(12,fun _ W=>Flt W (q+1) (.iface t0 y0) k0),(13,fun _ W=>Flt W (q+1) (.iface t1 y1) k1),(14,fun _ W=>Flt W (q+1) (.iface t2 y2) k2)]:List (Nat×(Pk→World→Prop)))→12≤x9.1→x9.2 ⟨none,0,0⟩ WV:=by
  intro x hx hn9
  simp only [List.mem_cons,List.not_mem_nil,or_false] at hx
  rcases hx with rfl|rfl|rfl
  ·exact unhide G0
  ·exact unhide G1
  ·exact unhide G2
 refine wp_region_any (by kernel_rfl) ?_
 refine wpAny_pick (fun p9=>[some (44,.func (Fn.func fd) #[] #[.pointer (some ⟨pm,0,none⟩)]),some (45,.slice (some ⟨q,0,none⟩) 3 3),some (46,.iface t y),some (47,.agg #[.int .i64 E,.int .i64 F]),some (48,.int .u8 (md:Int)),some (49,.tuple #[.int .u64 bb,.int .u8 gg,.int .i64 0]),some (50,.int .u64 bb),some (51,.int .u8 gg),some (52,.int .i64 0),some (8,.int .u64 bb),some (9,.int .u8 gg),some (10,.int .i64 0)])
  (fun p9 l9 W9=>Pm w 0 [(12,fun _ W=>Flt W (q+1) (.iface t0 y0) k0),(13,fun _ W=>Flt W (q+1) (.iface t1 y1) k1),(14,fun _ W=>Flt W (q+1) (.iface t2 y2) k2)] p9 l9 W9 [⟨w4.heap.size,#[.int .u8 fl],65⟩,⟨q,#[.iface t0 y0,.iface t1 y1,.iface t2 y2],37⟩,⟨w.heap.size,#[.int .i64 E,.int .i64 F],23⟩,⟨p,#[.int .u64 a,.int .u64 b,.int .u64 d],24⟩,⟨pm,#[.int .u8 (md:Int)],5⟩]) _ _ (fun _=>rfl) (by kernel_rfl) (fun _=>rfl) (fun _=>rfl) ?_ ?_ (fun _=>⟨none,0,0⟩) (Pm.start2 hS _ _ _ (Nat.zero_le _) hs9 h09)
 ·intro p9 l9 t9 W9 i9 hD hi9 hl9 hM
  obtain ⟨o9,ho9,hd9⟩:=(mem_ready.1 hi9).2
  have hin9:i9 < 12:=by
   by_cases h:i9 < 12
   ·exact h
   ·rw [Array.getElem?_eq_none (by rw [hD.len]; simp; omega)] at hl9; cases hl9
  have hcase:i9 = 0∨i9 = 1∨i9 = 2∨i9 = 3∨i9 = 4∨i9 = 5∨i9 = 6∨i9 = 7∨i9 = 8∨i9 = 9∨i9 = 10∨i9 = 11:=by omega
  clear hin9
  rcases hcase with rfl|rfl|rfl|rfl|rfl|rfl|rfl|rfl|rfl|rfl|rfl|rfl
  ·cases ho9
   have r2:=hD.old 2 _ rfl rfl
   refine wpOp_step rfl fun K hK=>?_
   go_simp
   exact hK _ _ ⟨p9,fun _ _=>by first|exact rfl|trivial,rfl,(hM.val rfl)⟩
  ·cases ho9
   have r14:=hD.old 14 _ rfl rfl
   refine wpOp_step rfl fun K hK=>?_
   go_simp
   exact hK _ _ ⟨p9,fun _ _=>by first|exact rfl|trivial,rfl,(hM.val rfl)⟩
  ·cases ho9
   have r44:=hD.od hd9 0 44 _ rfl (by simp)
   have r45:=hD.od hd9 1 45 _ rfl (by simp)
   have ga0:=hM.fx _ (List.mem_of_getElem? (i:=0) rfl) (Or.inr (by rw [hD.len]; simp))
   try simp only [] at ga0
   have ga1:=hM.fx _ (List.mem_of_getElem? (i:=1) rfl) (Or.inr (by rw [hD.len]; simp))
   try simp only [] at ga1
   have ga2:=hM.fx _ (List.mem_of_getElem? (i:=2) rfl) (Or.inr (by rw [hD.len]; simp))
   try simp only [] at ga2
   refine wpOp_step rfl fun K hK=>?_
   go_simp
   go_wp2_with fail
   refine (unhide HDo _ _ _ _ _ _ _ _ ((unhide HT).kept hM.st.fr) (hM.st.bx ⟨q,#[.iface t0 y0,.iface t1 y1,.iface t2 y2],37⟩ (by simp)) (hM.st.bx ⟨pm,#[.int .u8 (md:Int)],5⟩ (by simp)) ga0 ga1 ga2).mono ?_
   rintro en w9 ⟨rfl,hb9⟩
   exact hK _ _ ⟨p9,fun _ _=>by first|exact rfl|trivial,rfl,((hM.kept hs9 hb9).val rfl)⟩
  ·cases ho9
   have r4:=hD.old 4 _ rfl rfl
   have hM0:=hM.st
   have Q_:=hM0.cellAt (b:=w.heap.size) (cs:=#[.int .i64 E,.int .i64 F]) (t:=23) (by simp)
   have c9_0:=Q_ 0 _ rfl
   have c9_1:=Q_ 1 _ rfl
   clear Q_
   clear hM0
   refine wpOp_step rfl fun K hK=>?_
   go_simp
   exact hK _ _ ⟨p9,fun _ _=>by first|exact rfl|trivial,rfl,(hM.val rfl)⟩
  ·cases ho9
   have r1:=hD.old 1 _ rfl rfl
   refine wpOp_step rfl fun K hK=>?_
   go_simp
   exact hK _ _ ⟨p9,fun _ _=>by first|exact rfl|trivial,rfl,(hM.val rfl)⟩
  ·cases ho9
   have r46:=hD.od hd9 2 46 _ rfl (by simp)
   have r47:=hD.od hd9 3 47 _ rfl (by simp)
   have r48:=hD.od hd9 4 48 _ rfl (by simp)
   have ga0:=hM.fx _ (List.mem_of_getElem? (i:=0) rfl) (Or.inr (by rw [hD.len]; simp))
   try simp only [] at ga0
   have ga1:=hM.fx _ (List.mem_of_getElem? (i:=1) rfl) (Or.inr (by rw [hD.len]; simp))
   try simp only [] at ga1
   have ga2:=hM.fx _ (List.mem_of_getElem? (i:=2) rfl) (Or.inr (by rw [hD.len]; simp))
   try simp only [] at ga2
   refine wpOp_step rfl fun K hK=>?_
   go_simp
   go_wp2_with fail
   refine (unhide HRd _).mono ?_
   rintro en w9 ⟨rfl,hb9⟩
   exact hK _ _ ⟨p9,fun _ _=>by first|exact rfl|trivial,rfl,((hM.kept hs9 hb9).val rfl)⟩
  ·cases ho9
   have r49:=hD.od hd9 5 49 _ rfl (by simp)
   refine wpOp_step rfl fun K hK=>?_
   go_simp
   exact hK _ _ ⟨p9,fun _ _=>by first|exact rfl|trivial,rfl,(hM.val rfl)⟩
  ·cases ho9
   have r49:=hD.od hd9 5 49 _ rfl (by simp)
   refine wpOp_step rfl fun K hK=>?_
   go_simp
   exact hK _ _ ⟨p9,fun _ _=>by first|exact rfl|trivial,rfl,(hM.val rfl)⟩
  ·cases ho9
   have r49:=hD.od hd9 5 49 _ rfl (by simp)
   refine wpOp_step rfl fun K hK=>?_
   go_simp
   exact hK _ _ ⟨p9,fun _ _=>by first|exact rfl|trivial,rfl,(hM.val rfl)⟩
  ·cases ho9
   have r50:=hD.od hd9 6 50 _ rfl (by simp)
   refine wpOp_step rfl fun K hK=>?_
   go_simp
   exact hK _ _ ⟨p9,fun _ _=>by first|exact rfl|trivial,rfl,(hM.val rfl)⟩
  ·cases ho9
   have r51:=hD.od hd9 7 51 _ rfl (by simp)
   refine wpOp_step rfl fun K hK=>?_
   go_simp
   exact hK _ _ ⟨p9,fun _ _=>by first|exact rfl|trivial,rfl,(hM.val rfl)⟩
  ·cases ho9
   have r52:=hD.od hd9 8 52 _ rfl (by simp)
   refine wpOp_step rfl fun K hK=>?_
   go_simp
   exact hK _ _ ⟨p9,fun _ _=>by first|exact rfl|trivial,rfl,(hM.val rfl)⟩
 ·intro p9 l9 W9 hn9 hl9 hM
  have kr11_0:=hM.fx _ (List.mem_of_getElem? (i:=0) rfl) (Or.inr (by rw [hn9]; simp))
  try simp only [] at kr11_0
  have kr11_1:=hM.fx _ (List.mem_of_getElem? (i:=1) rfl) (Or.inr (by rw [hn9]; simp))
  try simp only [] at kr11_1
  have kr11_2:=hM.fx _ (List.mem_of_getElem? (i:=2) rfl) (Or.inr (by rw [hn9]; simp))
  try simp only [] at kr11_2
  replace hM:=hM.st
  clear hl9 hs9 h09 hn9
  clear hS ybj ybk ybl ybm ybn ybo ybp ybq ybr ybs
  have hS:=hM
  clear hM
  simp only [Puts.lay,List.setIfInBounds_toArray,List.set_cons_zero,List.set_cons_succ]
  obtain ⟨⟨ybt,-⟩,⟨ybu,ybv,ybw,-⟩,⟨ybx,yby,-⟩,⟨ybz,yb0,yb1,-⟩,⟨yb2,-⟩,-⟩:=hS.cells
  go_wp2
  go_ret3
  exact ⟨rfl,hS.fr⟩
theorem operate3_num (E F a b d : Int) (md fd p pm : Nat) (H0 : Tel 32 #[.agg #[.int .i64 E, .int .i64 F], .int .u64 a] (.int .i64 0)) (H1 : Tel 32 #[.agg #[.int .i64 E, .int .i64 F], .int .u64 b] (.int .i64 0)) (H2 : Tel 32 #[.agg #[.int .i64 E, .int .i64 F], .int .u64 d] (.int .i64 0)) (k0 k1 k2 : Kd) (HA : Hid (FlOf E F a k0)) (HB : Hid (FlOf E F b k1)) (HD : Hid (FlOf E F d k2)) (hmd : md ≤ 4) (hr : (k0.isNan || k1.isNan || k2.isNan) = false) (fr : Nat) (bb gg : Int) (r : Bool) (v : Nat) (y fl2 : Int)  (w : World) (hp : w.heap[p]? = some (.cells #[.int .u64 a, .int .u64 b, .int .u64 d] 24 (0, 0))) (hpm : w.heap[pm]? = some (.cells #[.int .u8 (md : Int)] 5 (0, 0))) (hT : Tb w) (hN : Nb w) (hcd : ∀ (args : Array Value) (w : World), (callFunc fd args).run Tryz.prog w = .ok (.enter fd args) w) (hcr : ∀ (args : Array Value) (w : World), (callFunc fr args).run Tryz.prog w = .ok (.enter fr args) w) (HDo : Hid (∀ (W : World) (q : Nat) (t0 t1 t2 : TypeId) (y0 y1 y2 : Value), Tb W → W.heap[q]? = some (.cells #[.iface t0 y0, .iface t1 y1, .iface t2 y2] 37 (0, 0)) → W.heap[pm]? = some (.cells #[.int .u8 (md : Int)] 5 (0, 0)) → Flt W (q + 1) (.iface t0 y0) k0 → Flt W (q + 1) (.iface t1 y1) k1 → Flt W (q + 1) (.iface t2 y2) k2 → Calls Tryz.prog fd #[.slice (some ⟨q, 0, none⟩) 3 3, .pointer (some ⟨pm, 0, none⟩)] W fun e w' => (∃ A N C, e = .returned (.iface 116 (.agg #[.bool r, .slice A N C, .int .i64 y, .int .u8 fl2])) ∧ Mine w' 0 A N C v) ∧ Below W.heap.size W w')) (hm : ∀ (A : Option Addr) (N C : Nat), (∀ w : World, (method 301 116 (.agg #[.bool r, .slice A N C, .int .i64 y, .int .u8 fl2]) "numeral/soft.rounded").run Tryz.prog w = .ok (fr, .agg #[.bool r, .slice A N C, .int .i64 y, .int .u8 fl2]) w)) (HRd : Hid (∀ (W : World) (A : Option Addr) (N C : Nat), Mine W 0 A N C v → Calls Tryz.prog fr #[.agg #[.bool r, .slice A N C, .int .i64 y, .int .u8 fl2], .agg #[.int .i64 E, .int .i64 F], .int .u8 (md : Int)] W fun e w' => e = .returned (.tuple #[.int .u64 bb, .int .u8 gg, .int .i64 0]) ∧ Below W.heap.size W w')) :
  Calls Tryz.prog 7 #[.agg #[.int .i64 E,.int .i64 F],.int .u8 (md:Int),.func (Fn.func fd) #[] #[.pointer (some ⟨pm,0,none⟩)],.slice (some ⟨p,0,none⟩) 3 3] w fun e w'=>e = .returned (.tuple #[.int .u64 bb,.int .u8 gg,.int .i64 0])∧Below w.heap.size w w':=by
 have HT:=hide hT
 have HN:=hide hN
 have HNN:Hid (∀ (q:Nat) (v0 v1 v2:Value) (B:Nat) (W:World),W.heap[q]? = some (.cells #[v0,v1,v2] 37 (0,0))→Flt W B v0 k0→Flt W B v1 k1→Flt W B v2 k2→Calls Tryz.prog 20 #[.slice (some ⟨q,0,none⟩) 3 3] W fun e w'=>e = .returned (.tuple #[.agg #[.int .u8 (nn3 k0 k1 k2)],.bool false])∧Below W.heap.size W w'):=hide (fun q v0 v1 v2 B W h1 h2 h3 h4=>by have:=noNumber3 q v0 v1 v2 k0 k1 k2 B W h1 h2 h3 h4; rw [hr] at this; exact this)
 obtain ⟨fl,hfl⟩:∃ fl,nn3 k0 k1 k2 = fl:=⟨_,rfl⟩
 rw [hfl] at HNN
 clear hT hN hr hfl
 go_enter Tryz.func7,Tryz.ntmps7
 have hS:Fs w w [⟨p,#[.int .u64 a,.int .u64 b,.int .u64 d],24⟩,⟨pm,#[.int .u8 (md:Int)],5⟩]:=⟨fun x hx=>by simp only [List.mem_cons,List.not_mem_nil,or_false] at hx; rcases hx with rfl|rfl; exact hp; exact hpm,Below.refl _ _⟩
 have hol0:p < w.heap.size:=block_lt hp
 have hol1:pm < w.heap.size:=block_lt hpm
 clear hp hpm
 replace hS:=hS.alloc #[.int .i64 E,.int .i64 F] 23
 obtain ⟨⟨ya,yb,-⟩,⟨yc,yd,ye,-⟩,⟨yf,-⟩,-⟩:=hS.cells
 go_wp2_with fail
 refine (scheck3_ok E F p a b d H0 H1 H2 _ (hS.bx ⟨p,#[.int .u64 a,.int .u64 b,.int .u64 d],24⟩ (by simp))).mono ?_
 rintro e w1 ⟨rfl,hb1⟩
 replace hS:=hS.kept hb1
 clear ya yb yc yd ye yf
 obtain ⟨⟨yg,yh,-⟩,⟨yi,yj,yk,-⟩,⟨yl,-⟩,-⟩:=hS.cells
 go_wp2_with fail
 refine (name_ok md hmd _ ((unhide HN).kept hS.fr)).mono ?_
 rintro e w2 ⟨⟨st,rfl⟩,hb2⟩
 replace hS:=hS.kept hb2
 clear yg yh yi yj yk yl
 obtain ⟨⟨ym,yn,-⟩,⟨yo,yp,yq,-⟩,⟨yr,-⟩,-⟩:=hS.cells
 have hbx:w.heap.size < w2.heap.size:=block_lt (hS.bx ⟨w.heap.size,#[.int .i64 E,.int .i64 F],23⟩ (by simp))
 go_wp2_with fail
 refine (floatsOf3 E F p a b d k0 k1 k2 HA HB HD _ ((unhide HT).kept hS.fr) (hS.bx ⟨p,#[.int .u64 a,.int .u64 b,.int .u64 d],24⟩ (by simp))).mono ?_
 rintro e w3 ⟨⟨q,t0,y0,t1,y1,t2,y2,rfl,hqw,hq,g0,g1,g2⟩,hb3⟩
 replace hS:=hS.kept hb3
 clear ym yn yo yp yq yr
 obtain ⟨⟨ys,yt,-⟩,⟨yu,yv,yw,-⟩,⟨yx,-⟩,-⟩:=hS.cells
 have G0:Hid (Flt w3 (q+1) (.iface t0 y0) k0):=hide g0
 have G1:Hid (Flt w3 (q+1) (.iface t1 y1) k1):=hide g1
 have G2:Hid (Flt w3 (q+1) (.iface t2 y2) k2):=hide g2
 clear g0 g1 g2
 replace hS:Fs w w3 [⟨q,#[.iface t0 y0,.iface t1 y1,.iface t2 y2],37⟩,⟨w.heap.size,#[.int .i64 E,.int .i64 F],23⟩,⟨p,#[.int .u64 a,.int .u64 b,.int .u64 d],24⟩,⟨pm,#[.int .u8 (md:Int)],5⟩]:=⟨fun x hx=>by rcases List.mem_cons.1 hx with rfl|hx; exact hq; exact hS.bx x hx,hS.fr⟩
 clear hq ys yt yu yv yw yx
 obtain ⟨⟨yy,yz,y3,-⟩,⟨y4,y5,-⟩,⟨y6,y7,y8,-⟩,⟨y9,-⟩,-⟩:=hS.cells
 go_wp2_with fail
 refine (unhide HNN _ _ _ _ _ _ (hS.bx ⟨q,#[.iface t0 y0,.iface t1 y1,.iface t2 y2],37⟩ (by simp)) (unhide G0) (unhide G1) (unhide G2)).mono ?_
 rintro e w4 ⟨rfl,hb4⟩
 replace hS:=hS.kept hb4
 clear yy yz y3 y4 y5 y6 y7 y8 y9
 obtain ⟨⟨yba,ybb,ybc,-⟩,⟨ybd,ybe,-⟩,⟨ybf,ybg,ybh,-⟩,⟨ybi,-⟩,-⟩:=hS.cells
 replace G0:=hide ((unhide G0).kept hb4)
 replace G1:=hide ((unhide G1).kept hb4)
 replace G2:=hide ((unhide G2).kept hb4)
 have hltw4_0:q < w4.heap.size:=hS.lt 0 rfl
 have hltw4_1:w.heap.size < w4.heap.size:=hS.lt 1 rfl
 have hltw4_2:p < w4.heap.size:=hS.lt 2 rfl
 have hltw4_3:pm < w4.heap.size:=hS.lt 3 rfl
 obtain ⟨WV,hWV⟩:∃ WV,w4.alloc (.cells #[.int .u8 fl] 65) = WV:=⟨_,rfl⟩
 replace hS:=hS.alloc #[.int .u8 fl] 65
 rw [hWV] at hS
 replace G0:=hide (hWV▸(unhide G0).alloc (.cells #[.int .u8 fl] 65))
 replace G1:=hide (hWV▸(unhide G1).alloc (.cells #[.int .u8 fl] 65))
 replace G2:=hide (hWV▸(unhide G2).alloc (.cells #[.int .u8 fl] 65))
 clear yba ybb ybc ybd ybe ybf ybg ybh ybi
 obtain ⟨⟨ybj,-⟩,⟨ybk,ybl,ybm,-⟩,⟨ybn,ybo,-⟩,⟨ybp,ybq,ybr,-⟩,⟨ybs,-⟩,-⟩:=hS.cells
 go_wp2_with fail
 have hS3s:w.heap.size≤WV.heap.size:=hS.size
 have hs9:∀ x9:Nat×(Pk→World→Prop),x9∈([(2,fun q9 W=>Mine W 0 q9.A q9.N q9.C v),(12,fun _ W=>Flt W (q+1) (.iface t0 y0) k0),(13,fun _ W=>Flt W (q+1) (.iface t1 y1) k1),(14,fun _ W=>Flt W (q+1) (.iface t2 y2) k2)]:List (Nat×(Pk→World→Prop)))→∀ q9:Pk,St 0 (x9.2 q9):=by
  intro x hx q
  simp only [List.mem_cons,List.not_mem_nil,or_false] at hx
  rcases hx with rfl|rfl|rfl|rfl
  ·exact st_mine7 _ _ _ _
  ·exact st_flt7 _ _ _
  ·exact st_flt7 _ _ _
  ·exact st_flt7 _ _ _
 have h09:∀ x9:Nat×(Pk→World→Prop),x9∈([(2,fun q9 W=>Mine W 0 q9.A q9.N q9.C v),(12,fun _ W=>Flt W (q+1) (.iface t0 y0) k0),(13,fun _ W=>Flt W (q+1) (.iface t1 y1) k1),(14,fun _ W=>Flt W (q+1) (.iface t2 y2) k2)]:List (Nat×(Pk→World→Prop)))→12≤x9.1→x9.2 ⟨none,0,0⟩ WV:=by
  intro x hx hn9
  simp only [List.mem_cons,List.not_mem_nil,or_false] at hx
  rcases hx with rfl|rfl|rfl|rfl
  ·exact absurd hn9 (by simp)
  ·exact unhide G0
  ·exact unhide G1
  ·exact unhide G2
 refine wp_region_any (by kernel_rfl) ?_
 refine wpAny_pick (fun p9=>[some (44,.func (Fn.func fd) #[] #[.pointer (some ⟨pm,0,none⟩)]),some (45,.slice (some ⟨q,0,none⟩) 3 3),some (46,.iface 116 (.agg #[.bool r,.slice (p9 2).A (p9 2).N (p9 2).C,.int .i64 y,.int .u8 fl2])),some (47,.agg #[.int .i64 E,.int .i64 F]),some (48,.int .u8 (md:Int)),some (49,.tuple #[.int .u64 bb,.int .u8 gg,.int .i64 0]),some (50,.int .u64 bb),some (51,.int .u8 gg),some (52,.int .i64 0),some (8,.int .u64 bb),some (9,.int .u8 gg),some (10,.int .i64 0)])
  (fun p9 l9 W9=>Pm w 0 [(2,fun q9 W=>Mine W 0 q9.A q9.N q9.C v),(12,fun _ W=>Flt W (q+1) (.iface t0 y0) k0),(13,fun _ W=>Flt W (q+1) (.iface t1 y1) k1),(14,fun _ W=>Flt W (q+1) (.iface t2 y2) k2)] p9 l9 W9 [⟨w4.heap.size,#[.int .u8 fl],65⟩,⟨q,#[.iface t0 y0,.iface t1 y1,.iface t2 y2],37⟩,⟨w.heap.size,#[.int .i64 E,.int .i64 F],23⟩,⟨p,#[.int .u64 a,.int .u64 b,.int .u64 d],24⟩,⟨pm,#[.int .u8 (md:Int)],5⟩]) _ _ (fun _=>rfl) (by kernel_rfl) (fun _=>rfl) (fun _=>rfl) ?_ ?_ (fun _=>⟨none,0,0⟩) (Pm.start2 hS _ _ _ (Nat.zero_le _) hs9 h09)
 ·intro p9 l9 t9 W9 i9 hD hi9 hl9 hM
  obtain ⟨o9,ho9,hd9⟩:=(mem_ready.1 hi9).2
  have hin9:i9 < 12:=by
   by_cases h:i9 < 12
   ·exact h
   ·rw [Array.getElem?_eq_none (by rw [hD.len]; simp; omega)] at hl9; cases hl9
  have hcase:i9 = 0∨i9 = 1∨i9 = 2∨i9 = 3∨i9 = 4∨i9 = 5∨i9 = 6∨i9 = 7∨i9 = 8∨i9 = 9∨i9 = 10∨i9 = 11:=by omega
  clear hin9
  rcases hcase with rfl|rfl|rfl|rfl|rfl|rfl|rfl|rfl|rfl|rfl|rfl|rfl
  ·cases ho9
   have r2:=hD.old 2 _ rfl rfl
   refine wpOp_step rfl fun K hK=>?_
   go_simp
   exact hK _ _ ⟨p9,fun _ _=>rfl,rfl,(hM.val rfl)⟩
  ·cases ho9
   have r14:=hD.old 14 _ rfl rfl
   refine wpOp_step rfl fun K hK=>?_
   go_simp
   exact hK _ _ ⟨p9,fun _ _=>rfl,rfl,(hM.val rfl)⟩
  ·cases ho9
   have r44:=hD.od hd9 0 44 _ rfl (by simp)
   have r45:=hD.od hd9 1 45 _ rfl (by simp)
   have ga0:=hM.fx _ (List.mem_of_getElem? (i:=1) rfl) (Or.inr (by rw [hD.len]; simp))
   try simp only [] at ga0
   have ga1:=hM.fx _ (List.mem_of_getElem? (i:=2) rfl) (Or.inr (by rw [hD.len]; simp))
   try simp only [] at ga1
   have ga2:=hM.fx _ (List.mem_of_getElem? (i:=3) rfl) (Or.inr (by rw [hD.len]; simp))
   try simp only [] at ga2
   have HD:=hide hD
   refine wpOp_step rfl fun K hK=>?_
   go_simp
   go_wp2_with fail
   refine (unhide HDo _ _ _ _ _ _ _ _ ((unhide HT).kept hM.st.fr) (hM.st.bx ⟨q,#[.iface t0 y0,.iface t1 y1,.iface t2 y2],37⟩ (by simp)) (hM.st.bx ⟨pm,#[.int .u8 (md:Int)],5⟩ (by simp)) ga0 ga1 ga2).mono ?_
   rintro en w9 ⟨⟨a9,n9,c9,rfl,h9⟩,hb9⟩
   refine hK _ _ ⟨p9.set 2 ⟨a9,n9,c9⟩,?_,rfl,((hM.kept hs9 hb9).pick ⟨a9,n9,c9⟩ ?_)⟩
   ·intro k9 hk9
    clear hM hK
    match k9,hk9 with
    | 0,_=>rfl
    | 1,_=>rfl
    | 2,hk9=>exact absurd (hl9.symm.trans hk9) (by simp)
    | 3,_=>rfl
    | 4,_=>rfl
    | 5,hk9=>exact absurd (hl9.symm.trans (getD_true ((unhide HD).shut 5 _ (hk9) rfl ⟨2,.data⟩ (by simp) rfl))) (by simp)
    | 6,hk9=>exact absurd (hl9.symm.trans (getD_true ((unhide HD).shut 5 _ (getD_true ((unhide HD).shut 6 _ (hk9) rfl ⟨5,.data⟩ (by simp) rfl)) rfl ⟨2,.data⟩ (by simp) rfl))) (by simp)
    | 7,hk9=>exact absurd (hl9.symm.trans (getD_true ((unhide HD).shut 5 _ (getD_true ((unhide HD).shut 7 _ (hk9) rfl ⟨5,.data⟩ (by simp) rfl)) rfl ⟨2,.data⟩ (by simp) rfl))) (by simp)
    | 8,hk9=>exact absurd (hl9.symm.trans (getD_true ((unhide HD).shut 5 _ (getD_true ((unhide HD).shut 8 _ (hk9) rfl ⟨5,.data⟩ (by simp) rfl)) rfl ⟨2,.data⟩ (by simp) rfl))) (by simp)
    | 9,hk9=>exact absurd (hl9.symm.trans (getD_true ((unhide HD).shut 9 _ (hk9) rfl ⟨2,.phase⟩ (by simp) rfl))) (by simp)
    | 10,hk9=>exact absurd (hl9.symm.trans (getD_true ((unhide HD).shut 10 _ (hk9) rfl ⟨2,.phase⟩ (by simp) rfl))) (by simp)
    | 11,hk9=>exact absurd (hl9.symm.trans (getD_true ((unhide HD).shut 11 _ (hk9) rfl ⟨2,.phase⟩ (by simp) rfl))) (by simp)
    | k9+12,_=>rfl
   ·intro x hx he; simp only [List.mem_cons,List.not_mem_nil,or_false] at hx; rcases hx with rfl|rfl|rfl|rfl
    ·exact h9
    ·exact absurd he (by simp)
    ·exact absurd he (by simp)
    ·exact absurd he (by simp)
  ·cases ho9
   have r4:=hD.old 4 _ rfl rfl
   have hM0:=hM.st
   have Q_:=hM0.cellAt (b:=w.heap.size) (cs:=#[.int .i64 E,.int .i64 F]) (t:=23) (by simp)
   have c9_0:=Q_ 0 _ rfl
   have c9_1:=Q_ 1 _ rfl
   clear Q_
   clear hM0
   refine wpOp_step rfl fun K hK=>?_
   go_simp
   exact hK _ _ ⟨p9,fun _ _=>rfl,rfl,(hM.val rfl)⟩
  ·cases ho9
   have r1:=hD.old 1 _ rfl rfl
   refine wpOp_step rfl fun K hK=>?_
   go_simp
   exact hK _ _ ⟨p9,fun _ _=>rfl,rfl,(hM.val rfl)⟩
  ·cases ho9
   have r46:=hD.od hd9 2 46 _ rfl (by simp)
   have r47:=hD.od hd9 3 47 _ rfl (by simp)
   have r48:=hD.od hd9 4 48 _ rfl (by simp)
   have ga0:=hM.fx _ (List.mem_of_getElem? (i:=1) rfl) (Or.inr (by rw [hD.len]; simp))
   try simp only [] at ga0
   have ga1:=hM.fx _ (List.mem_of_getElem? (i:=2) rfl) (Or.inr (by rw [hD.len]; simp))
   try simp only [] at ga1
   have ga2:=hM.fx _ (List.mem_of_getElem? (i:=3) rfl) (Or.inr (by rw [hD.len]; simp))
   try simp only [] at ga2
   have g2:=hM.fx _ (List.mem_of_getElem? (i:=0) rfl) (Or.inl (getD_true (hd9 ⟨2,.data⟩ (by simp) rfl)))
   simp only [] at g2
   refine wpOp_step rfl fun K hK=>?_
   go_simp
   go_wp2_with fail
   refine (unhide HRd _ _ _ _ g2).mono ?_
   rintro en w9 ⟨rfl,hb9⟩
   exact hK _ _ ⟨p9,fun _ _=>rfl,rfl,((hM.kept hs9 hb9).val rfl)⟩
  ·cases ho9
   have r49:=hD.od hd9 5 49 _ rfl (by simp)
   refine wpOp_step rfl fun K hK=>?_
   go_simp
   exact hK _ _ ⟨p9,fun _ _=>rfl,rfl,(hM.val rfl)⟩
  ·cases ho9
   have r49:=hD.od hd9 5 49 _ rfl (by simp)
   refine wpOp_step rfl fun K hK=>?_
   go_simp
   exact hK _ _ ⟨p9,fun _ _=>rfl,rfl,(hM.val rfl)⟩
  ·cases ho9
   have r49:=hD.od hd9 5 49 _ rfl (by simp)
   refine wpOp_step rfl fun K hK=>?_
   go_simp
   exact hK _ _ ⟨p9,fun _ _=>rfl,rfl,(hM.val rfl)⟩
  ·cases ho9
   have r50:=hD.od hd9 6 50 _ rfl (by simp)
   refine wpOp_step rfl fun K hK=>?_
   go_simp
   exact hK _ _ ⟨p9,fun _ _=>rfl,rfl,(hM.val rfl)⟩
  ·cases ho9
   have r51:=hD.od hd9 7 51 _ rfl (by simp)
   refine wpOp_step rfl fun K hK=>?_
   go_simp
   exact hK _ _ ⟨p9,fun _ _=>rfl,rfl,(hM.val rfl)⟩
  ·cases ho9
   have r52:=hD.od hd9 8 52 _ rfl (by simp)
   refine wpOp_step rfl fun K hK=>?_
   go_simp
   exact hK _ _ ⟨p9,fun _ _=>rfl,rfl,(hM.val rfl)⟩
 ·intro p9 l9 W9 hn9 hl9 hM
  have fr11_2:=hM.fx _ (List.mem_of_getElem? (i:=0) rfl) (Or.inl (hl9 2 (by decide)))
  have kr11_0:=hM.fx _ (List.mem_of_getElem? (i:=1) rfl) (Or.inr (by rw [hn9]; simp))
  try simp only [] at kr11_0
  have kr11_1:=hM.fx _ (List.mem_of_getElem? (i:=2) rfl) (Or.inr (by rw [hn9]; simp))
  try simp only [] at kr11_1
  have kr11_2:=hM.fx _ (List.mem_of_getElem? (i:=3) rfl) (Or.inr (by rw [hn9]; simp))
  try simp only [] at kr11_2
  replace hM:=hM.st
  clear hl9 hs9 h09 hn9
  generalize p9 2 = q2 at *
  obtain ⟨Ar11_2,Nr11_2,Cr11_2⟩:=q2
  simp only [] at fr11_2
  clear hS ybj ybk ybl ybm ybn ybo ybp ybq ybr ybs
  have hS:=hM
  clear hM
  simp only [Puts.lay,List.setIfInBounds_toArray,List.set_cons_zero,List.set_cons_succ]
  obtain ⟨⟨ybt,-⟩,⟨ybu,ybv,ybw,-⟩,⟨ybx,yby,-⟩,⟨ybz,yb0,yb1,-⟩,⟨yb2,-⟩,-⟩:=hS.cells
  go_wp2
  go_ret3
  exact ⟨rfl,hS.fr⟩
theorem operate3_nan (E F a b d : Int) (md fd p pm : Nat) (H0 : Tel 32 #[.agg #[.int .i64 E, .int .i64 F], .int .u64 a] (.int .i64 0)) (H1 : Tel 32 #[.agg #[.int .i64 E, .int .i64 F], .int .u64 b] (.int .i64 0)) (H2 : Tel 32 #[.agg #[.int .i64 E, .int .i64 F], .int .u64 d] (.int .i64 0)) (k0 k1 k2 : Kd) (HA : Hid (FlOf E F a k0)) (HB : Hid (FlOf E F b k1)) (HD : Hid (FlOf E F d k2)) (hmd : md ≤ 4) (hr : (k0.isNan || k1.isNan || k2.isNan) = true) (fr : Nat) (bb gg : Int) (t : TypeId) (y : Value) (fl : Nat) (hfl : nn3 k0 k1 k2 = (fl : Int))  (w : World) (hp : w.heap[p]? = some (.cells #[.int .u64 a, .int .u64 b, .int .u64 d] 24 (0, 0))) (hpm : w.heap[pm]? = some (.cells #[.int .u8 (md : Int)] 5 (0, 0))) (hT : Tb w) (hN : Nb w) (hcd : ∀ (args : Array Value) (w : World), (callFunc fd args).run Tryz.prog w = .ok (.enter fd args) w) (hcr : ∀ (args : Array Value) (w : World), (callFunc fr args).run Tryz.prog w = .ok (.enter fr args) w) (HDo : Hid (∀ (W : World) (q : Nat) (t0 t1 t2 : TypeId) (y0 y1 y2 : Value), Tb W → W.heap[q]? = some (.cells #[.iface t0 y0, .iface t1 y1, .iface t2 y2] 37 (0, 0)) → W.heap[pm]? = some (.cells #[.int .u8 (md : Int)] 5 (0, 0)) → Flt W (q + 1) (.iface t0 y0) (.nan fl) → Flt W (q + 1) (.iface t1 y1) k1 → Flt W (q + 1) (.iface t2 y2) k2 → Calls Tryz.prog fd #[.slice (some ⟨q, 0, none⟩) 3 3, .pointer (some ⟨pm, 0, none⟩)] W fun e w' => e = .returned (.iface t y) ∧ Below W.heap.size W w')) (hm : (∀ w : World, (method 301 t (y) "numeral/soft.rounded").run Tryz.prog w = .ok (fr, y) w)) (HRd : Hid (∀ W : World, Calls Tryz.prog fr #[y, .agg #[.int .i64 E, .int .i64 F], .int .u8 (md : Int)] W fun e w' => e = .returned (.tuple #[.int .u64 bb, .int .u8 gg, .int .i64 0]) ∧ Below W.heap.size W w')) :
  Calls Tryz.prog 7 #[.agg #[.int .i64 E,.int .i64 F],.int .u8 (md:Int),.func (Fn.func fd) #[] #[.pointer (some ⟨pm,0,none⟩)],.slice (some ⟨p,0,none⟩) 3 3] w fun e w'=>e = .returned (.tuple #[.int .u64 bb,.int .u8 gg,.int .i64 0])∧Below w.heap.size w w':=by
 have HT:=hide hT
 have HN:=hide hN
 have HNN:Hid (∀ (q:Nat) (v0 v1 v2:Value) (B:Nat) (W:World),W.heap[q]? = some (.cells #[v0,v1,v2] 37 (0,0))→Flt W B v0 k0→Flt W B v1 k1→Flt W B v2 k2→Calls Tryz.prog 20 #[.slice (some ⟨q,0,none⟩) 3 3] W fun e w'=>e = .returned (.tuple #[.agg #[.int .u8 (nn3 k0 k1 k2)],.bool true])∧Below W.heap.size W w'):=hide (fun q v0 v1 v2 B W h1 h2 h3 h4=>by have:=noNumber3 q v0 v1 v2 k0 k1 k2 B W h1 h2 h3 h4; rw [hr] at this; exact this)
 rw [hfl] at HNN
 clear hT hN hr hfl
 go_enter Tryz.func7,Tryz.ntmps7
 have hS:Fs w w [⟨p,#[.int .u64 a,.int .u64 b,.int .u64 d],24⟩,⟨pm,#[.int .u8 (md:Int)],5⟩]:=⟨fun x hx=>by simp only [List.mem_cons,List.not_mem_nil,or_false] at hx; rcases hx with rfl|rfl; exact hp; exact hpm,Below.refl _ _⟩
 have hol0:p < w.heap.size:=block_lt hp
 have hol1:pm < w.heap.size:=block_lt hpm
 clear hp hpm
 replace hS:=hS.alloc #[.int .i64 E,.int .i64 F] 23
 obtain ⟨⟨ya,yb,-⟩,⟨yc,yd,ye,-⟩,⟨yf,-⟩,-⟩:=hS.cells
 go_wp2_with fail
 refine (scheck3_ok E F p a b d H0 H1 H2 _ (hS.bx ⟨p,#[.int .u64 a,.int .u64 b,.int .u64 d],24⟩ (by simp))).mono ?_
 rintro e w1 ⟨rfl,hb1⟩
 replace hS:=hS.kept hb1
 clear ya yb yc yd ye yf
 obtain ⟨⟨yg,yh,-⟩,⟨yi,yj,yk,-⟩,⟨yl,-⟩,-⟩:=hS.cells
 go_wp2_with fail
 refine (name_ok md hmd _ ((unhide HN).kept hS.fr)).mono ?_
 rintro e w2 ⟨⟨st,rfl⟩,hb2⟩
 replace hS:=hS.kept hb2
 clear yg yh yi yj yk yl
 obtain ⟨⟨ym,yn,-⟩,⟨yo,yp,yq,-⟩,⟨yr,-⟩,-⟩:=hS.cells
 have hbx:w.heap.size < w2.heap.size:=block_lt (hS.bx ⟨w.heap.size,#[.int .i64 E,.int .i64 F],23⟩ (by simp))
 go_wp2_with fail
 refine (floatsOf3 E F p a b d k0 k1 k2 HA HB HD _ ((unhide HT).kept hS.fr) (hS.bx ⟨p,#[.int .u64 a,.int .u64 b,.int .u64 d],24⟩ (by simp))).mono ?_
 rintro e w3 ⟨⟨q,t0,y0,t1,y1,t2,y2,rfl,hqw,hq,g0,g1,g2⟩,hb3⟩
 replace hS:=hS.kept hb3
 clear ym yn yo yp yq yr
 obtain ⟨⟨ys,yt,-⟩,⟨yu,yv,yw,-⟩,⟨yx,-⟩,-⟩:=hS.cells
 have G0:Hid (Flt w3 (q+1) (.iface t0 y0) k0):=hide g0
 have G1:Hid (Flt w3 (q+1) (.iface t1 y1) k1):=hide g1
 have G2:Hid (Flt w3 (q+1) (.iface t2 y2) k2):=hide g2
 clear g0 g1 g2
 replace hS:Fs w w3 [⟨q,#[.iface t0 y0,.iface t1 y1,.iface t2 y2],37⟩,⟨w.heap.size,#[.int .i64 E,.int .i64 F],23⟩,⟨p,#[.int .u64 a,.int .u64 b,.int .u64 d],24⟩,⟨pm,#[.int .u8 (md:Int)],5⟩]:=⟨fun x hx=>by rcases List.mem_cons.1 hx with rfl|hx; exact hq; exact hS.bx x hx,hS.fr⟩
 clear hq ys yt yu yv yw yx
 obtain ⟨⟨yy,yz,y3,-⟩,⟨y4,y5,-⟩,⟨y6,y7,y8,-⟩,⟨y9,-⟩,-⟩:=hS.cells
 go_wp2_with fail
 refine (unhide HNN _ _ _ _ _ _ (hS.bx ⟨q,#[.iface t0 y0,.iface t1 y1,.iface t2 y2],37⟩ (by simp)) (unhide G0) (unhide G1) (unhide G2)).mono ?_
 rintro e w4 ⟨rfl,hb4⟩
 replace hS:=hS.kept hb4
 clear yy yz y3 y4 y5 y6 y7 y8 y9
 obtain ⟨⟨yba,ybb,ybc,-⟩,⟨ybd,ybe,-⟩,⟨ybf,ybg,ybh,-⟩,⟨ybi,-⟩,-⟩:=hS.cells
 replace G0:=hide ((unhide G0).kept hb4)
 replace G1:=hide ((unhide G1).kept hb4)
 replace G2:=hide ((unhide G2).kept hb4)
 have hltw4_0:q < w4.heap.size:=hS.lt 0 rfl
 have hltw4_1:w.heap.size < w4.heap.size:=hS.lt 1 rfl
 have hltw4_2:p < w4.heap.size:=hS.lt 2 rfl
 have hltw4_3:pm < w4.heap.size:=hS.lt 3 rfl
 obtain ⟨WV,hWV⟩:∃ WV,w4.alloc (.cells #[.int .u8 (fl:Int)] 65) = WV:=⟨_,rfl⟩
 replace hS:=hS.alloc #[.int .u8 (fl:Int)] 65
 rw [hWV] at hS
 replace G0:=hide (hWV▸(unhide G0).alloc (.cells #[.int .u8 (fl:Int)] 65))
 replace G1:=hide (hWV▸(unhide G1).alloc (.cells #[.int .u8 (fl:Int)] 65))
 replace G2:=hide (hWV▸(unhide G2).alloc (.cells #[.int .u8 (fl:Int)] 65))
 clear yba ybb ybc ybd ybe ybf ybg ybh ybi
 obtain ⟨⟨ybj,-⟩,⟨ybk,ybl,ybm,-⟩,⟨ybn,ybo,-⟩,⟨ybp,ybq,ybr,-⟩,⟨ybs,-⟩,-⟩:=hS.cells
 obtain ⟨WS,hWS⟩:∃ z9,WV.setCell ⟨q,0,none⟩ (.iface 65 (.agg #[.int .u8 (fl:Int)])) = z9:=⟨_,rfl⟩
 have fzWS:=hS.frozen (b:=q) (cs:=#[.iface t0 y0,.iface t1 y1,.iface t2 y2]) (t:=37) (by simp) 0
 go_wp2_with fail
 replace hS:=hS.put (b:=q) (cs:=#[.iface t0 y0,.iface t1 y1,.iface t2 y2]) (t:=37) (by simp) (by omega) 0 (.iface 65 (.agg #[.int .u8 (fl:Int)])) [⟨w4.heap.size,#[.int .u8 (fl:Int)],65⟩,⟨q,#[.iface 65 (.agg #[.int .u8 (fl:Int)]),.iface t1 y1,.iface t2 y2],37⟩,⟨w.heap.size,#[.int .i64 E,.int .i64 F],23⟩,⟨p,#[.int .u64 a,.int .u64 b,.int .u64 d],24⟩,⟨pm,#[.int .u8 (md:Int)],5⟩] (by simp <;> omega)
 rw [hWS] at hS
 replace G1:=hide (hWS▸(unhide G1).set (p:=⟨q,0,none⟩) (Nat.lt_succ_self q) (.iface 65 (.agg #[.int .u8 (fl:Int)])))
 replace G2:=hide (hWS▸(unhide G2).set (p:=⟨q,0,none⟩) (Nat.lt_succ_self q) (.iface 65 (.agg #[.int .u8 (fl:Int)])))
 clear G0 fzWS ybj ybk ybl ybm ybn ybo ybp ybq ybr ybs
 obtain ⟨⟨ybt,-⟩,⟨ybu,ybv,ybw,-⟩,⟨ybx,yby,-⟩,⟨ybz,yb0,yb1,-⟩,⟨yb2,-⟩,-⟩:=hS.cells
 have hS3s:w.heap.size≤WS.heap.size:=hS.size
 have hs9:∀ x9:Nat×(Pk→World→Prop),x9∈([(12,fun _ W=>Flt W (q+1) (.iface t1 y1) k1),(13,fun _ W=>Flt W (q+1) (.iface t2 y2) k2)]:List (Nat×(Pk→World→Prop)))→∀ q9:Pk,St 0 (x9.2 q9):=by
  intro x hx q
  simp only [List.mem_cons,List.not_mem_nil,or_false] at hx
  rcases hx with rfl|rfl
  ·exact st_flt7 _ _ _
  ·exact st_flt7 _ _ _
 have h09:∀ x9:Nat×(Pk→World→Prop),x9∈([(12,fun _ W=>Flt W (q+1) (.iface t1 y1) k1),(13,fun _ W=>Flt W (q+1) (.iface t2 y2) k2)]:List (Nat×(Pk→World→Prop)))→12≤x9.1→x9.2 ⟨none,0,0⟩ WS:=by
  intro x hx hn9
  simp only [List.mem_cons,List.not_mem_nil,or_false] at hx
  rcases hx with rfl|rfl
  ·exact unhide G1
  ·exact unhide G2
 refine wp_region_any (by kernel_rfl) ?_
 refine wpAny_pick (fun p9=>[some (44,.func (Fn.func fd) #[] #[.pointer (some ⟨pm,0,none⟩)]),some (45,.slice (some ⟨q,0,none⟩) 3 3),some (46,.iface t y),some (47,.agg #[.int .i64 E,.int .i64 F]),some (48,.int .u8 (md:Int)),some (49,.tuple #[.int .u64 bb,.int .u8 gg,.int .i64 0]),some (50,.int .u64 bb),some (51,.int .u8 gg),some (52,.int .i64 0),some (8,.int .u64 bb),some (9,.int .u8 gg),some (10,.int .i64 0)])
  (fun p9 l9 W9=>Pm w 0 [(12,fun _ W=>Flt W (q+1) (.iface t1 y1) k1),(13,fun _ W=>Flt W (q+1) (.iface t2 y2) k2)] p9 l9 W9 [⟨w4.heap.size,#[.int .u8 (fl:Int)],65⟩,⟨q,#[.iface 65 (.agg #[.int .u8 (fl:Int)]),.iface t1 y1,.iface t2 y2],37⟩,⟨w.heap.size,#[.int .i64 E,.int .i64 F],23⟩,⟨p,#[.int .u64 a,.int .u64 b,.int .u64 d],24⟩,⟨pm,#[.int .u8 (md:Int)],5⟩]) _ _ (fun _=>rfl) (by kernel_rfl) (fun _=>rfl) (fun _=>rfl) ?_ ?_ (fun _=>⟨none,0,0⟩) (Pm.start2 hS _ _ _ (Nat.zero_le _) hs9 h09)
 ·intro p9 l9 t9 W9 i9 hD hi9 hl9 hM
  obtain ⟨o9,ho9,hd9⟩:=(mem_ready.1 hi9).2
  have hin9:i9 < 12:=by
   by_cases h:i9 < 12
   ·exact h
   ·rw [Array.getElem?_eq_none (by rw [hD.len]; simp; omega)] at hl9; cases hl9
  have hcase:i9 = 0∨i9 = 1∨i9 = 2∨i9 = 3∨i9 = 4∨i9 = 5∨i9 = 6∨i9 = 7∨i9 = 8∨i9 = 9∨i9 = 10∨i9 = 11:=by omega
  clear hin9
  rcases hcase with rfl|rfl|rfl|rfl|rfl|rfl|rfl|rfl|rfl|rfl|rfl|rfl
  ·cases ho9
   have r2:=hD.old 2 _ rfl rfl
   refine wpOp_step rfl fun K hK=>?_
   go_simp
   exact hK _ _ ⟨p9,fun _ _=>by first|exact rfl|trivial,rfl,(hM.val rfl)⟩
  ·cases ho9
   have r14:=hD.old 14 _ rfl rfl
   refine wpOp_step rfl fun K hK=>?_
   go_simp
   exact hK _ _ ⟨p9,fun _ _=>by first|exact rfl|trivial,rfl,(hM.val rfl)⟩
  ·cases ho9
   have r44:=hD.od hd9 0 44 _ rfl (by simp)
   have r45:=hD.od hd9 1 45 _ rfl (by simp)
   have ga0:=hM.fx _ (List.mem_of_getElem? (i:=0) rfl) (Or.inr (by rw [hD.len]; simp))
   try simp only [] at ga0
   have ga1:=hM.fx _ (List.mem_of_getElem? (i:=1) rfl) (Or.inr (by rw [hD.len]; simp))
   try simp only [] at ga1
   refine wpOp_step rfl fun K hK=>?_
   go_simp
   go_wp2_with fail
   refine (unhide HDo _ _ _ _ _ _ _ _ ((unhide HT).kept hM.st.fr) (hM.st.bx ⟨q,#[.iface 65 (.agg #[.int .u8 (fl:Int)]),.iface t1 y1,.iface t2 y2],37⟩ (by simp)) (hM.st.bx ⟨pm,#[.int .u8 (md:Int)],5⟩ (by simp)) rfl ga0 ga1).mono ?_
   rintro en w9 ⟨rfl,hb9⟩
   exact hK _ _ ⟨p9,fun _ _=>by first|exact rfl|trivial,rfl,((hM.kept hs9 hb9).val rfl)⟩
  ·cases ho9
   have r4:=hD.old 4 _ rfl rfl
   have hM0:=hM.st
   have Q_:=hM0.cellAt (b:=w.heap.size) (cs:=#[.int .i64 E,.int .i64 F]) (t:=23) (by simp)
   have c9_0:=Q_ 0 _ rfl
   have c9_1:=Q_ 1 _ rfl
   clear Q_
   clear hM0
   refine wpOp_step rfl fun K hK=>?_
   go_simp
   exact hK _ _ ⟨p9,fun _ _=>by first|exact rfl|trivial,rfl,(hM.val rfl)⟩
  ·cases ho9
   have r1:=hD.old 1 _ rfl rfl
   refine wpOp_step rfl fun K hK=>?_
   go_simp
   exact hK _ _ ⟨p9,fun _ _=>by first|exact rfl|trivial,rfl,(hM.val rfl)⟩
  ·cases ho9
   have r46:=hD.od hd9 2 46 _ rfl (by simp)
   have r47:=hD.od hd9 3 47 _ rfl (by simp)
   have r48:=hD.od hd9 4 48 _ rfl (by simp)
   have ga0:=hM.fx _ (List.mem_of_getElem? (i:=0) rfl) (Or.inr (by rw [hD.len]; simp))
   try simp only [] at ga0
   have ga1:=hM.fx _ (List.mem_of_getElem? (i:=1) rfl) (Or.inr (by rw [hD.len]; simp))
   try simp only [] at ga1
   refine wpOp_step rfl fun K hK=>?_
   go_simp
   go_wp2_with fail
   refine (unhide HRd _).mono ?_
   rintro en w9 ⟨rfl,hb9⟩
   exact hK _ _ ⟨p9,fun _ _=>by first|exact rfl|trivial,rfl,((hM.kept hs9 hb9).val rfl)⟩
  ·cases ho9
   have r49:=hD.od hd9 5 49 _ rfl (by simp)
   refine wpOp_step rfl fun K hK=>?_
   go_simp
   exact hK _ _ ⟨p9,fun _ _=>by first|exact rfl|trivial,rfl,(hM.val rfl)⟩
  ·cases ho9
   have r49:=hD.od hd9 5 49 _ rfl (by simp)
   refine wpOp_step rfl fun K hK=>?_
   go_simp
   exact hK _ _ ⟨p9,fun _ _=>by first|exact rfl|trivial,rfl,(hM.val rfl)⟩
  ·cases ho9
   have r49:=hD.od hd9 5 49 _ rfl (by simp)
   refine wpOp_step rfl fun K hK=>?_
   go_simp
   exact hK _ _ ⟨p9,fun _ _=>by first|exact rfl|trivial,rfl,(hM.val rfl)⟩
  ·cases ho9
   have r50:=hD.od hd9 6 50 _ rfl (by simp)
   refine wpOp_step rfl fun K hK=>?_
   go_simp
   exact hK _ _ ⟨p9,fun _ _=>by first|exact rfl|trivial,rfl,(hM.val rfl)⟩
  ·cases ho9
   have r51:=hD.od hd9 7 51 _ rfl (by simp)
   refine wpOp_step rfl fun K hK=>?_
   go_simp
   exact hK _ _ ⟨p9,fun _ _=>by first|exact rfl|trivial,rfl,(hM.val rfl)⟩
  ·cases ho9
   have r52:=hD.od hd9 8 52 _ rfl (by simp)
   refine wpOp_step rfl fun K hK=>?_
   go_simp
   exact hK _ _ ⟨p9,fun _ _=>by first|exact rfl|trivial,rfl,(hM.val rfl)⟩
 ·intro p9 l9 W9 hn9 hl9 hM
  have kr11_0:=hM.fx _ (List.mem_of_getElem? (i:=0) rfl) (Or.inr (by rw [hn9]; simp))
  try simp only [] at kr11_0
  have kr11_1:=hM.fx _ (List.mem_of_getElem? (i:=1) rfl) (Or.inr (by rw [hn9]; simp))
  try simp only [] at kr11_1
  replace hM:=hM.st
  clear hl9 hs9 h09 hn9
  clear hS ybt ybu ybv ybw ybx yby ybz yb0 yb1 yb2
  have hS:=hM
  clear hM
  simp only [Puts.lay,List.setIfInBounds_toArray,List.set_cons_zero,List.set_cons_succ]
  obtain ⟨⟨yb3,-⟩,⟨yb4,yb5,yb6,-⟩,⟨yb7,yb8,-⟩,⟨yb9,yca,ycb,-⟩,⟨ycc,-⟩,-⟩:=hS.cells
  go_wp2
  go_ret3
  exact ⟨rfl,hS.fr⟩
theorem sFma_is (E F a b d:Int) (md:Nat) (x y z:Int) (w:World) (HO:Hid (∀ (W:World) (p pm:Nat),Below w.heap.size w W→W.heap[p]? = some (.cells #[.int .u64 a,.int .u64 b,.int .u64 d] 24 (0,0))→W.heap[pm]? = some (.cells #[.int .u8 (md:Int)] 5 (0,0))→Calls Tryz.prog 7 #[.agg #[.int .i64 E,.int .i64 F],.int .u8 (md:Int),.func (Fn.func 8) #[] #[.pointer (some ⟨pm,0,none⟩)],.slice (some ⟨p,0,none⟩) 3 3] W fun e w'=>e = .returned (.tuple #[.int .u64 x,.int .u8 y,.int .i64 z])∧Below W.heap.size W w')) :
  Calls Tryz.prog 5 #[.agg #[.int .i64 E,.int .i64 F],.int .u64 a,.int .u64 b,.int .u64 d,.int .u8 (md:Int)] w fun e w'=>e = .returned (.tuple #[.int .u64 x,.int .u8 y,.int .i64 z])∧Below w.heap.size w w':=by
 go_enter Tryz.func5,Tryz.ntmps5
 go_wp2_with fail
 have hS:Fs w ((w.alloc (.cells #[.int .i64 E,.int .i64 F] 23)).alloc (.cells #[.int .u8 (md:Int)] 5)) [⟨w.heap.size,#[.int .i64 E,.int .i64 F],23⟩,⟨w.heap.size+1,#[.int .u8 (md:Int)],5⟩]:=Fs.two w _ _ _ _
 have hA:=hS.alloc #[.int .u64 a,.int .u64 b,.int .u64 d] 24
 simp only [World.size_alloc] at hA
 refine (unhide HO _ _ _ hA.fr (hA.bx ⟨w.heap.size+1+1,#[.int .u64 a,.int .u64 b,.int .u64 d],24⟩ (by simp)) (hA.bx ⟨w.heap.size+1,#[.int .u8 (md:Int)],5⟩ (by simp))).mono ?_
 rintro e w1 ⟨rfl,hb1⟩
 replace hS:=hA.kept hb1
 go_wp2
 go_ret3
 exact ⟨rfl,hS.fr⟩
end Go.Proofs.YtfimakkpdjppfaaGreatDoor
