/- Of what DigitsSureRow stands on: DxW RbMulN DxNum. -/
import Derived.Test.YteafdlblemdclaaGreatDoorPbh
import Derived.Test.YteafdlblemdclaaGreatDoorPaz
import Derived.Test.YteafdlblemdclaaGreatDoorPad
import Derived.Test.YteafdlblemdclaaGreatDoorPay
import Derived.Test.YteafdlblemdclaaGreatDoorPbj
import Derived.Test.YteafdlblemdclaaGreatDoorPaw
import Derived.Test.YteafdlblemdclaaGreatDoorPbp
namespace Go.Proofs.YteafdlblemdclaaGreatDoor
open Go.RowKit
set_option maxHeartbeats 2000000
set_option maxRecDepth 20000
theorem dnum_no (w:World) (g:Bool) (s:ByteArray) (x:Int) (HP:Hid (∀ W:World,Calls Tryz.prog 70 #[.string s] W fun e W'=>e = .returned (.tuple #[.agg #[.slice none 0 0],.int .i64 0,.int .i64 12])∧Below W.heap.size W W')) :
  Calls Tryz.prog 35 #[.agg #[.bool g,.string s,.int .i64 x]] w fun en w'=>en = .returned (.agg #[.slice none 0 0])∧Below w.heap.size w w':=by
 refine calls_sym Tryz.func35 rfl (by kernel_rfl) fun T hK=>?_
 replace hK:Kn T _ [(0,.agg #[.bool g,.string s,.int .i64 x])]:=hK
 have hS:=Fb.begin w
 have hG:GsAt [] w:=trivial
 refine wq hS hG hK (fun p1=>[.n 1 #[.bool g,.string s,.int .i64 x] 35,.n 2 #[.slice none 0 0] 28]) (fun p1=>[(1,pT (p1 0).N 0),(2,pT (p1 1).N 0)]) (fun p1=>?_) (fun p1 W1 T hF hK=>?_)
 ·iterate 2 refine okn ?_
  exact ok_nil
 replace hS:=SymF.fc hS hF [1000,1001] [⟨(p1 0).N,#[.bool g,.string s,.int .i64 x],35,true⟩,⟨(p1 1).N,#[.slice none 0 0],28,true⟩]
 replace hG:=hF.gx
 clear hF
 refine wq hS hG hK (fun p2=>[.v 7 (pT (p1 0).N 1),.l 8 (.string s) 0 1,.c (some 9) (cV (.tuple #[.agg #[.slice none 0 0],.int .i64 0,.int .i64 12])),.v 6 (.tuple #[.agg #[.slice none 0 0],.int .i64 0,.int .i64 12]),.v 10 (.agg #[.slice none 0 0]),.v 11 (.int .i64 0),.v 12 (.int .i64 12),.n 3 #[.slice none 0 0] 28,.p 1007 0 [.slice none 0 0],.v 4 (.int .i64 0),.v 5 (.int .i64 12)]) (fun p2=>[(2,pT (p1 1).N 0),(3,pT (p2 7).N 0)]) (fun p2=>?_) (fun p2 W2 T hF hK=>?_)
 ·refine okv ?_
  refine okl ?_
  refine okc (fun W cx=>as_v (unhide HP _)) ?_
  iterate 4 refine okv ?_
  refine okn ?_
  refine okp ?_
  iterate 2 refine okv ?_
  exact ok_nil
 replace hS:=SymF.fc hS hF [1,1007] [⟨(p1 1).N,#[.slice none 0 0],28,true⟩,⟨(p2 7).N,#[.slice none 0 0],28,true⟩]
 replace hG:=hF.gx
 clear hF
 refine wq hS hG hK (fun p3=>[.l 13 (.agg #[.slice none 0 0]) 1 0,.p 0 0 [.slice none 0 0]]) (fun p3=>[(2,pT (p1 1).N 0)]) (fun p3=>?_) (fun p3 W3 T hF hK=>?_)
 ·refine okl ?_
  refine okp ?_
  exact ok_nil
 replace hS:=SymF.fc hS hF [0] [⟨(p1 1).N,#[.slice none 0 0],28,true⟩]
 replace hG:=hF.gx
 clear hF
 refine wp_ret ?_
 exact sym_end hS hK (.agg #[.slice none 0 0]) [(0,0,1)] [.slice none 0 0] (by kernel_rfl) (by kernel_rfl) ⟨rfl,hS.fr⟩
theorem rb_over {v e:Nat} (h:v < 2 ^ e) (he:e≤524288):¬ Over v:=fun o=>by
 have h1:=o.le
 rw [show 4294967296 ^ Pl.top = 2 ^ (32 * Pl.top) by rw [Nat.pow_mul]] at h1
 have h3:e≤32 * Pl.top:=by have:=Pl.top_eq; omega
 exact absurd (Nat.lt_of_lt_of_le h (Nat.pow_le_pow_right (by decide) h3)) (Nat.not_lt.2 h1)
def ptn (e:Int):Rat:=mkRat ((10 ^ e.toNat:Nat):Int) (10 ^ (-e).toNat)
theorem ten_ne (n:Nat):(10:Nat) ^ n≠0:=Nat.ne_of_gt (Nat.pow_pos (by decide))
theorem ptn_mul (x y:Int):ptn (x+y) = ptn x * ptn y:=by
 unfold ptn
 rw [Rat.mkRat_mul_mkRat,Rat.mkRat_eq_iff (ten_ne _) (Nat.mul_ne_zero (ten_ne _) (ten_ne _))]
 have e:10 ^ (x+y).toNat * (10 ^ (-x).toNat * 10 ^ (-y).toNat) = 10 ^ x.toNat * 10 ^ y.toNat * 10 ^ (-(x+y)).toNat:=by
  rw [← Nat.pow_add,← Nat.pow_add,← Nat.pow_add,← Nat.pow_add]
  congr 1; omega
 exact_mod_cast e
theorem ptn_pos (e:Int):0 < ptn e:=by
 unfold ptn
 rw [Rat.mkRat_eq_div,Rat.div_def]
 refine Rat.mul_pos ?_ ?_
 ·have:(0:Nat) < 10 ^ e.toNat:=Nat.pow_pos (by decide)
  exact_mod_cast this
 ·rw [Rat.inv_pos]
  have:(0:Nat) < 10 ^ (-e).toNat:=Nat.pow_pos (by decide)
  exact_mod_cast this
theorem ptn_nat (o:Nat):ptn (o:Int) = ((10 ^ o:Nat):Rat):=by
 unfold ptn
 rw [Int.toNat_natCast,show (-(o:Int)).toNat = 0 by omega,Nat.pow_zero,Rat.mkRat_eq_div]
 have h1:(1:Rat)⁻¹ = 1:=by have:=Rat.mul_inv_cancel (1:Rat) (by decide); rwa [Rat.one_mul] at this
 simp [Rat.div_def,h1]
def dq (g:Bool) (M:Nat) (x:Int):Rat:=((Rm.sgn g M:Int):Rat) * ptn x
theorem dq_up (g:Bool) (M:Nat) (x:Int) (o:Nat):dq g M (x+(o:Int)) = dq g (M * 10 ^ o) x:=by
 unfold dq
 rw [ptn_mul,ptn_nat,Rm.sgn_scale,Rat.intCast_mul,Rat.mul_assoc,Rat.mul_comm (ptn x),← Rat.mul_assoc]
 simp [Rat.mul_assoc]
theorem dq_zero (g:Bool) (x:Int):dq g 0 x = 0:=by
 unfold dq; rw [Rm.sgn_zero]; simp
theorem dvl_sgn (g:Bool) (A:Nat):dvl g A = Rm.sgn g A:=rfl
theorem dq_ord (g g2:Bool) (A B:Nat) (e:Int):ordR (dq g A e) (dq g2 B e) = cmpZ (dvl g A) (dvl g2 B):=by
 have h:dq g A e < dq g2 B e↔dvl g A < dvl g2 B:=by
  unfold dq
  rw [Rat.mul_lt_mul_right (ptn_pos e),Rat.intCast_lt_intCast]; exact Iff.rfl
 have h2:dq g A e = dq g2 B e↔dvl g A = dvl g2 B:=by
  constructor
  ·intro k
   have k1:¬ dvl g A < dvl g2 B:=fun q=>by have:=h.2 q; rw [k] at this; exact Rat.lt_irrefl this
   have k2:¬ dvl g2 B < dvl g A:=fun q=>by
    have:dq g2 B e < dq g A e:=by
     unfold dq
     rw [Rat.mul_lt_mul_right (ptn_pos e),Rat.intCast_lt_intCast]; exact q
    rw [k] at this; exact Rat.lt_irrefl this
   omega
  ·intro k
   unfold dq
   rw [dvl_sgn,dvl_sgn] at k
   rw [k]
 unfold ordR cmpZ
 by_cases k:dq g A e = dq g2 B e
 ·rw [if_pos k,h2.1 k,if_neg (by omega),if_neg (by omega)]
 ·rw [if_neg k]
  have k':¬ dvl g A = dvl g2 B:=fun q=>k (h2.2 q)
  by_cases q:dq g A e < dq g2 B e
  ·rw [if_pos q,if_pos (h.1 q)]
  ·have q':¬ dvl g A < dvl g2 B:=fun r=>q (h.2 r)
   rw [if_neg q,if_neg q',if_pos (by omega)]
theorem dq_mk (g:Bool) (M:Nat) (x:Int):dq g M x = mkRat (Rm.sgn g (M * 10 ^ x.toNat)) (10 ^ (-x).toNat):=by
 unfold dq ptn
 rw [Rat.mkRat_eq_div,Rat.mkRat_eq_div,Rm.sgn_scale,Rat.intCast_mul,Rat.div_def,Rat.div_def,Rat.mul_assoc]
theorem dx_empty {s:ByteArray} (h:s.size = 0):valS s = 0:=by
 have:digs s = []:=by
  have hl:(digs s).length = s.size:=by simp [digs]
  exact List.eq_nil_of_length_eq_zero (by omega)
 unfold valS
 rw [this]
 rfl
theorem dx_low {s:ByteArray} {x:Int} (h:DcOk s x) (h0:s.size≠0):10 ^ (s.size - 1)≤valS s∧valS s % 10≠0:=by
 have hl:(digs s).length = s.size:=by simp [digs]
 have hat:=h.ok.digS.2.2
 constructor
 ·have h0':0 < s.size:=by omega
  have hdl:=hat 0 h0'
  have hne:=h.fst h0'
  unfold valS
  match hds:digs s with
  | []=>rw [hds] at hl; simp at hl; omega
  | d :: r=>
   rw [hds] at hdl hl
   have hd0:d≠0:=fun e=>hne (by simpa [e] using hdl)
   have:=Pl.lead_low (d:=d) (ds:=r) hd0
   rw [show s.size - 1 = r.length by simp at hl; omega]
   exact this
 ·obtain ⟨k,hk⟩:∃ k,k+1 = s.size:=⟨s.size - 1,by omega⟩
  have e:=dval_snoc (digs s) k (by omega)
  rw [List.take_of_length_le (by omega)] at e
  have h1:=hat k (by omega)
  have h2:=h.lst k hk
  have h3:=h.ok.digS.2.1 ((digs s)[k]'(by omega)) (List.getElem_mem _)
  rw [List.getElem?_eq_getElem (by omega),Option.getD_some] at e h1
  unfold valS
  omega
theorem dx_ten (n:Nat):10 ^ n≤2 ^ (4 * n):=by
 rw [Nat.pow_mul]; exact Nat.pow_le_pow_left (by decide) n
theorem dx_lt {s:ByteArray} {x:Int} (h:DcOk s x) (o:Nat):valS s * 10 ^ o < 10 ^ (s.size+o):=valS_lt s o h.ok
theorem dx_number (g:Bool) {s:ByteArray} {x:Int} (h:DcOk s x) (W:World):Calls Tryz.prog 35 #[.agg #[.bool g,.string s,.int .i64 x]] W fun en W'=>(∃ a n c,en = .returned (.agg #[.slice a n c])∧Mine W' W.heap.size a n c (valS s))∧Below W.heap.size W W':=by
 by_cases h0:s.size = 0
 ·rw [dx_empty h0]
  refine (dnum_no W g s x (hide fun W=>(parse_any s W (by omega)).mono fun e W' ⟨h,hb⟩=>⟨by
   rcases h with ⟨h1,_⟩|⟨_,h1⟩|⟨i,hi,_⟩|⟨_,_,_,h1,_⟩
   ·omega
   ·exact h1
   ·omega
   ·omega,hb⟩)).mono fun e W' ⟨h1,h2⟩=>⟨⟨none,0,0,h1,⟨[],rfl,Or.inl ⟨rfl,rfl⟩,Pl.wf_nil,Pl.norm_nil,rfl,by omega⟩⟩,h2⟩
 ·exact dnum_any g s x h.ok h.sz h0 W
theorem dx_ratio (g:Bool) {s:ByteArray} {x:Int} {K:Nat} (h:DcOk s x) (hK:4 * (s.size+x.natAbs)+4≤K) (hK2:K≤100000) :
  ∃ (f:Bool) (R S:Nat),Rm.Q (dq g (valS s) x) f R S∧R < 2 ^ K∧S < 2 ^ K∧∀ W:World,Calls Tryz.prog 12 #[.agg #[.bool g,.string s,.int .i64 x]] W fun en W'=>(∃ A N C A' N' C',en = .returned (.tuple #[.agg #[.bool f,.slice A N C,.slice A' N' C'],.int .i64 0])∧Mine W' W.heap.size A N C R∧Mine W' W.heap.size A' N' C' S)∧Below W.heap.size W W':=by
 have hlo:=h.lo
 have hhi:=h.hi
 obtain ⟨p,hp⟩:∃ p:Nat,x.toNat = p:=⟨_,rfl⟩
 obtain ⟨q,hq⟩:∃ q:Nat,(-x).toNat = q:=⟨_,rfl⟩
 have up:∀ {v n:Nat},v < 10 ^ n→4 * n≤K→v < 2 ^ K:=fun {v n} hv hn=>Nat.lt_of_lt_of_le (Nat.lt_of_lt_of_le hv (dx_ten n)) (Nat.pow_le_pow_right (by decide) hn)
 have b1:valS s * 10 ^ p < 2 ^ K:=up (dx_lt h p) (by omega)
 have b2:10 ^ p < 2 ^ K:=up (n:=p+1) (Nat.pow_lt_pow_right (by decide) (by omega)) (by omega)
 have b3:10 ^ q < 2 ^ K:=up (n:=q+1) (Nat.pow_lt_pow_right (by decide) (by omega)) (by omega)
 have hm:=Rm.Q.made (s:=g) (n:=valS s * 10 ^ p) (d:=10 ^ q) (ten_ne q)
 have e:=dq_mk g (valS s) x
 rw [hp,hq] at e
 rw [← e] at hm
 refine ⟨_,_,_,hm,Nat.lt_of_le_of_lt (Nat.div_le_self _ _) b1,Nat.lt_of_le_of_lt (Nat.div_le_self _ _) b3,fun W=>?_⟩
 exact drat_ok W g s x p q (valS s) (10 ^ p) (10 ^ q) (valS s * 10 ^ p) _ _ _ hlo hhi (by omega) (by omega) (hide fun W=>h.chk g W) (hide fun W=>dx_number g h W)
  (hide fun W=>(pow_any 10 p W (by decide) (by omega)).mono fun en W' ⟨k1,k2⟩=>⟨zans k1 (rb_over b2 (by omega)),k2⟩)
  (hide fun W=>(pow_any 10 q W (by decide) (by omega)).mono fun en W' ⟨k1,k2⟩=>⟨zans k1 (rb_over b3 (by omega)),k2⟩)
  (hide fun W a n c a' n' c' k1 k2=>(mul_any a a' n n' c c' _ _ W k1 k2).mono fun en W' ⟨k3,k4⟩=>⟨zans k3 (rb_over b1 (by omega)),k4⟩)
  (hide fun W a n c a' n' c' k1 k2=>ymake_any g a a' n n' c c' _ _ W k1 k2 (Nat.pow_pos (by decide)))
theorem dx_made (g:Bool) (N:Nat) {x:Int} {n:Nat} (hN:N < 10 ^ n) (hn:n≤65000) (h0:-100000≤x) (h1:x≤100000):∃ (s3:ByteArray) (x3:Int),MkA g N x (.tuple #[.agg #[.bool g,.string s3,.int .i64 x3],.int .i64 0])∧DcOk s3 x3∧dq g (valS s3) x3 = dq g N x∧s3.size≤n∧x3.natAbs≤x.natAbs+n:=by
 have hT:N < tenTop 65536:=Nat.lt_of_lt_of_le hN (le_top (by omega))
 by_cases hz:N = 0
 ·have hE:MkA g N x (.tuple #[.agg #[.bool g,.string ⟨#[]⟩,.int .i64 0],.int .i64 0]):=Or.inl ⟨hz,rfl⟩
  refine ⟨⟨#[]⟩,0,hE,(mkA_num hE hT).2.1,?_,Nat.zero_le _,by omega⟩
  rw [dx_empty rfl,hz,dq_zero,dq_zero]
 ·obtain ⟨g4,s4,x4,e4,hE⟩:=mkA_ex g N x
  obtain ⟨s3,z,hV,hok,hval⟩:=mkA_near hE hz hT (by omega) (by omega)
  rw [hV] at hE
  have hne:s3.size≠0:=fun e=>hz (by rw [← hval,dx_empty e,Nat.zero_mul])
  obtain ⟨a,_⟩:=dx_low hok hne
  have b:10 ^ (s3.size - 1) * 10 ^ z < 10 ^ n:=Nat.lt_of_le_of_lt (by rw [← hval]; exact Nat.mul_le_mul_right _ a) hN
  rw [← Nat.pow_add] at b
  have:=(Nat.pow_lt_pow_iff_right (by decide)).1 b
  refine ⟨s3,_,hE,hok,?_,by omega,by omega⟩
  rw [dq_up,hval]
end Go.Proofs.YteafdlblemdclaaGreatDoor
