/- Of what PowerTensRow stands on: PwLeaf PwPrgW. -/
import Derived.Test.YteblliofeaahmaaDoorPas
import Derived.Test.YteblliofeaahmaaDoorPat
import Derived.Test.YteblliofeaahmaaDoorPau
import Derived.Test.YteblliofeaahmaaDoorPal
import Derived.Test.YteblliofeaahmaaDoorPam
import Derived.Test.YteblliofeaahmaaDoorPai
import Derived.Test.YteblliofeaahmaaDoorPag
namespace Go.Proofs.YteblliofeaahmaaDoor
open Go.RowKit
set_option maxHeartbeats 2000000
set_option maxRecDepth 20000
theorem over_two {v e:Nat} (h:v < 2 ^ e) (he:e≤524288):¬ Over v:=fun o=>by
 have h1:=o.le
 rw [show 4294967296 ^ Pl.top = 2 ^ (32 * Pl.top) by rw [Nat.pow_mul]] at h1
 have h3:e≤32 * Pl.top:=by have:=Pl.top_eq; omega
 exact absurd (Nat.lt_of_lt_of_le h (Nat.pow_le_pow_right (by decide) h3)) (Nat.not_lt.2 h1)
theorem rup_is {m k v e:Nat} (hv:m * 2 ^ k = v) (he:v < 2 ^ e) (he2:e≤524288) (hk:k < 9223372036854775808) (W:World) (a:Option Addr) (n c:Nat) (h:Num W a n m) :
  Calls Tryd.prog 29 #[.agg #[.slice a n c],.int .i64 (k:Int)] W fun en W'=>(∃ a n c,en = .returned (.tuple #[.agg #[.slice a n c],.int .i64 0])∧Mine W' W.heap.size a n c v)∧Below W.heap.size W W':=by
 subst hv
 exact (rup_any a n c m k W h hk).mono fun e W' ⟨h1,h2⟩=>⟨h1.ok (over_two he he2),h2⟩
theorem rdown_is {m k v:Nat} (hv:m / 2 ^ k = v) (hk:k < 9223372036854775808) (W:World) (a:Option Addr) (n c:Nat) (h:Num W a n m) :
  Calls Tryd.prog 28 #[.agg #[.slice a n c],.int .i64 (k:Int)] W fun en W'=>(∃ a n c,en = .returned (.tuple #[.agg #[.slice a n c],.int .i64 0])∧Mine W' W.heap.size a n c v)∧Below W.heap.size W W':=by
 subst hv
 exact rdown_any a n c m k W h hk
theorem rbits_is {m k:Nat} (hk:Bl m k) (W:World) (a:Option Addr) (n c:Nat) (h:Num W a n m) :
  Calls Tryd.prog 46 #[.agg #[.slice a n c]] W fun en W'=>en = .returned (.tuple #[.int .i64 (k:Int),.int .i64 0])∧Below W.heap.size W W':=
 (rbits_any a n c m W h).mono fun e W' ⟨⟨k',h1,h2,_⟩,hb⟩=>⟨by rw [h1,h2.uniq hk],hb⟩
theorem rpow_is {b j v e:Nat} (hv:b ^ j = v) (he:v < 2 ^ e) (he2:e≤524288) (hb:b < 4294967296) (hj:j < 9223372036854775808) (W:World) :
  Calls Tryd.prog 45 #[.int .u32 (b:Int),.int .i64 (j:Int)] W fun en W'=>(∃ a n c,en = .returned (.tuple #[.agg #[.slice a n c],.int .i64 0])∧Mine W' W.heap.size a n c v)∧Below W.heap.size W W':=by
 subst hv
 exact (rpow_any b j W hb hj).mono fun e W' ⟨h1,h2⟩=>⟨h1.ok (over_two he he2),h2⟩
theorem rlow_is {m:Nat} (hm:m < 18446744073709551616) (W:World) (a:Option Addr) (n c:Nat) (h:Num W a n m) :
  Calls Tryd.prog 57 #[.agg #[.slice a n c]] W fun en W'=>en = .returned (.tuple #[.int .u64 (m:Int),.bool true])∧Below W.heap.size W W':=by
 refine rlow_small a n c m W h ?_
 obtain ⟨xs,hn,_,hw,hN,hv,_⟩:=h
 have:=(Pl.val_le_len hw hN 2).2 (by rw [hv]; exact hm)
 omega
theorem rsub_is {m m' v:Nat} (hv:m = m'+v) (W:World) (a:Option Addr) (n c:Nat) (a':Option Addr) (n' c':Nat) (h:Num W a n m) (h':Num W a' n' m') :
  Calls Tryd.prog 58 #[.agg #[.slice a n c],.agg #[.slice a' n' c']] W fun en W'=>(∃ a n c,en = .returned (.tuple #[.agg #[.slice a n c],.bool true,.int .i64 0])∧Mine W' W.heap.size a n c v)∧Below W.heap.size W W':=by
 refine (rsub_any a a' n n' c c' m m' W h h').mono fun e W' ⟨h1,h2⟩=>⟨?_,h2⟩
 rcases h1 with ⟨h1,_⟩|⟨_,a,n,c,h1,h3⟩
 ·omega
 ·rw [show m - m' = v by omega] at h3
  exact ⟨a,n,c,h1,h3⟩
theorem rmul_is {m m' v e:Nat} (hv:m * m' = v) (he:v < 2 ^ e) (he2:e≤524288) (W:World) (a:Option Addr) (n c:Nat) (a':Option Addr) (n' c':Nat) (h:Num W a n m) (h':Num W a' n' m') :
  Calls Tryd.prog 26 #[.agg #[.slice a n c],.agg #[.slice a' n' c']] W fun en W'=>(∃ a n c,en = .returned (.tuple #[.agg #[.slice a n c],.int .i64 0])∧Mine W' W.heap.size a n c v)∧Below W.heap.size W W':=by
 subst hv
 exact (rmul_any a a' n n' c c' m m' W h h').mono fun e W' ⟨h1,h2⟩=>⟨h1.ok (over_two he he2),h2⟩
theorem rnat_is (a:Option Addr) (n c:Nat) (W:World) :
  Calls Tryd.prog 51 #[.slice a n c] W fun en W'=>en = .returned (.agg #[.slice a n c])∧Below W.heap.size W W':=
 (rnat_any _ a n c W rfl).mono fun e W' ⟨h1,h2⟩=>⟨h1,by rw [h2]; exact gr_alloc _ _⟩
theorem rquo_is {m d ka kb:Nat} (hka:Bl m ka) (hkb:Bl d kb) (hle:kb≤ka) (hd:0 < d) (hm:0 < m) (W:World) (a:Option Addr) (n c:Nat) (a':Option Addr) (n' c':Nat) (h:Num W a n m) (h':Num W a' n' d) :
  Calls Tryd.prog 86 #[.slice a n c,.slice a' n' c'] W fun en W'=>(∃ a n c a' n' c',en = .returned (.tuple #[.slice a n c,.slice a' n' c'])∧Mine W' W.heap.size a n c (m / d)∧Mine W' W.heap.size a' n' c' (m % d))∧Below W.heap.size W W':=by
 have hk32:ka≤32 * n:=by
  obtain ⟨xs,h1,h2,h3,h4,h5,h6⟩:=h
  rcases hka.2 with h0|h0
  ·omega
  ·have h7:=Pl.val_lt h3
   rw [h5,h1,show (4294967296:Nat) = 2 ^ 32 from rfl,← Nat.pow_mul] at h7
   have:=(Nat.pow_lt_pow_iff_right (a:=2) (by decide)).1 (Nat.lt_of_le_of_lt h0 h7)
   omega
 exact rquo_any a a' n n' c c' m d W h h' hd ka kb (ka - kb) hka hkb hk32 (by omega) hm
  (fun W hW=>(rsize_any a n c m W hW).mono fun e w' ⟨⟨k,h1,h2,_⟩,h3⟩=>⟨by rw [h1,h2.uniq hka],h3⟩)
  (fun W hW=>(rsize_any a' n' c' d W hW).mono fun e w' ⟨⟨k,h1,h2,_⟩,h3⟩=>⟨by rw [h1,h2.uniq hkb],h3⟩)
theorem npow_is {b j v e:Nat} (hv:b ^ j = v) (he:v < 2 ^ e) (he2:e≤524288) (hb:b < 4294967296) (hj:j < 9223372036854775808) (W:World) :
  Calls Tryd.prog 89 #[.int .u32 (b:Int),.int .i64 (j:Int)] W fun en W'=>(∃ a n c,en = .returned (.tuple #[.agg #[.slice a n c],.int .i64 0])∧Mine W' W.heap.size a n c v)∧Below W.heap.size W W':=by
 subst hv
 exact (pow_any b j W hb hj).mono fun e W' ⟨h1,h2⟩=>⟨h1.ok (over_two he he2),h2⟩
theorem nbits_is {m k:Nat} (hk:Bl m k) (W:World) (a:Option Addr) (n c:Nat) (h:Num W a n m) :
  Calls Tryd.prog 90 #[.agg #[.slice a n c]] W fun en W'=>en = .returned (.tuple #[.int .i64 (k:Int),.int .i64 0])∧Below W.heap.size W W':=
 (bits_any a n c m W h).mono fun e W' ⟨⟨k',h1,h2,_⟩,hb⟩=>⟨by rw [h1,h2.uniq hk],hb⟩
theorem nup_is {m k v e:Nat} (hv:m * 2 ^ k = v) (he:v < 2 ^ e) (he2:e≤524288) (hk:k < 9223372036854775808) (W:World) (a:Option Addr) (n c:Nat) (h:Num W a n m) :
  Calls Tryd.prog 91 #[.agg #[.slice a n c],.int .i64 (k:Int)] W fun en W'=>(∃ a n c,en = .returned (.tuple #[.agg #[.slice a n c],.int .i64 0])∧Mine W' W.heap.size a n c v)∧Below W.heap.size W W':=by
 subst hv
 exact (up_any a n c m k W h hk).mono fun e W' ⟨h1,h2⟩=>⟨h1.ok (over_two he he2),h2⟩
theorem ndown_is {m k v:Nat} (hv:m / 2 ^ k = v) (hk:k < 9223372036854775808) {W:World} {B:Nat} {a:Option Addr} {n c:Nat} (h:Mine W B a n c m) :
  Calls Tryd.prog 96 #[.agg #[.slice a n c],.int .i64 (k:Int)] W fun en W'=>(∃ a n c,en = .returned (.tuple #[.agg #[.slice a n c],.int .i64 0])∧Mine W' W.heap.size a n c v)∧Below W.heap.size W W':=by
 subst hv
 have hh:=h
 obtain ⟨xs,h1,h2,_⟩:=hh
 have:=h2.room
 exact down_any a n c m k W h.num this.1 this.2 hk
theorem ndiv_is {m d:Nat} (hd:d≠0) (W:World) (a:Option Addr) (n c:Nat) (a':Option Addr) (n' c':Nat) (h:Num W a n m) (h':Num W a' n' d) :
  Calls Tryd.prog 93 #[.agg #[.slice a n c],.agg #[.slice a' n' c']] W fun en W'=>(∃ a n c a' n' c',en = .returned (.tuple #[.agg #[.slice a n c],.agg #[.slice a' n' c'],.int .i64 0])∧Mine W' W.heap.size a n c (m / d)∧Mine W' W.heap.size a' n' c' (m % d))∧Below W.heap.size W W':=by
 refine (div_any a a' n n' c c' m d W h h').mono fun e W' ⟨h1,h2⟩=>⟨?_,h2⟩
 rcases h1 with ⟨h0,_⟩|⟨_,h3⟩
 ·exact absurd h0 hd
 ·exact h3
theorem shl_32 {y:Nat} (hy:y < 4294967296):IntKind.u64.wrap ((y:Int) * 2 ^ min (32:Int).toNat 64) = ((y * 4294967296:Nat):Int):=by
 rw [show (2:Int) ^ min (32:Int).toNat 64 = 4294967296 from rfl,wpu (by omega) (by omega)]; omega
theorem or_32 {x y z:Nat} (hx:x < 4294967296) (hy:y < 4294967296) (hz:y * 4294967296+x = z):Go.bits .or .u64 ((y * 4294967296:Nat):Int) (x:Int) = (z:Int):=by
 rw [bits_or_u64_nat _ _ (by omega) (by omega),← hz]
 have:=Nat.two_pow_add_eq_or_of_lt (i:=32) (b:=x) (by omega) y
 rw [Nat.mul_comm y]; rw [show (4294967296:Nat) = 2 ^ 32 from rfl,← this]
theorem pmin_is {j f:Nat} (hf:min j 27 = f):(if (27:Int) < (j:Int) then (27:Int) else (j:Int)) = (f:Int):=by
 subst hf; rw [imin]; omega
theorem told_under:Tryd.prog.underlying 29 = some (.struct (Tryd.prog.fieldsOf 29)):=by kernel_rfl
theorem script_eqtold {r:Nat} (h l x e:Int):script Tryd.prog r (binOp .eql 29 (.agg #[.int .u64 h,.int .u64 l,.int .i64 x,.int .i64 e]) (.agg #[.int .u64 h,.int .u64 l,.int .i64 x,.int .i64 e])) [] = some (.bool true,[]):=by
 have hE:script Tryd.prog r (Op.equalIn (9999+1) 29 (.agg #[.int .u64 h,.int .u64 l,.int .i64 x,.int .i64 e]) (.agg #[.int .u64 h,.int .u64 l,.int .i64 x,.int .i64 e])) [] = some (true,[]):=by
  refine script_struct 9999 _ _ _ told_under (by kernel_rfl) ?_
  have n1 : (Tryd.prog.fieldsOf 29).toList.map (fun f => (f.name, f.type, f.offset)) = [("hi", 22, 0), ("lo", 22, 1), ("exp", 3, 2), ("e", 23, 3)] := by kernel_rfl
  generalize (Tryd.prog.fieldsOf 29).toList = fs at n1 ⊢
  rcases fs with _|⟨f1,_|⟨f2,_|⟨f3,_|⟨f4,_|⟨f5,fs⟩⟩⟩⟩⟩ <;> simp only [List.map_cons,List.map_nil,List.cons.injEq,Prod.mk.injEq,and_true,reduceCtorEq,and_false] at n1
  obtain ⟨⟨a1,a2,a3⟩,⟨b1,b2,b3⟩,⟨c1,c2,c3⟩,d1,d2,d3⟩:=n1
  rw [Op.eqFields,if_pos (by rw [a1]; decide),a2,a3,script_bind Tryd.prog r _ _ [] (.int .u64 h) (by kernel_rfl),script_bind Tryd.prog r _ _ [] (.int .u64 h) (by kernel_rfl),script_bind Tryd.prog r _ _ [] _ (script_eqi h (by kernel_rfl)),if_neg (by decide)]
  rw [Op.eqFields,if_pos (by rw [b1]; decide),b2,b3,script_bind Tryd.prog r _ _ [] (.int .u64 l) (by kernel_rfl),script_bind Tryd.prog r _ _ [] (.int .u64 l) (by kernel_rfl),script_bind Tryd.prog r _ _ [] _ (script_eqi l (by kernel_rfl)),if_neg (by decide)]
  rw [Op.eqFields,if_pos (by rw [c1]; decide),c2,c3,script_bind Tryd.prog r _ _ [] (.int .i64 x) (by kernel_rfl),script_bind Tryd.prog r _ _ [] (.int .i64 x) (by kernel_rfl),script_bind Tryd.prog r _ _ [] _ (script_eqi x (by kernel_rfl)),if_neg (by decide)]
  rw [Op.eqFields,if_pos (by rw [d1]; decide),d2,d3,script_bind Tryd.prog r _ _ [] (.int .i64 e) (by kernel_rfl),script_bind Tryd.prog r _ _ [] (.int .i64 e) (by kernel_rfl),script_bind Tryd.prog r _ _ [] _ (script_eqi e (by kernel_rfl)),if_neg (by decide)]
  rfl
 have hE1:script Tryd.prog r (Op.equal 29 (.agg #[.int .u64 h,.int .u64 l,.int .i64 x,.int .i64 e]) (.agg #[.int .u64 h,.int .u64 l,.int .i64 x,.int .i64 e])) [] = some (true,[]):=by
  unfold Op.equal Op.maxDepth
  rw [show (10000:Nat) = 9999+1 from rfl]
  exact hE
 simp only [binOp]
 rw [script_bind Tryd.prog r (Op.equal _ _ _) _ [] true hE1]
 rfl
theorem word_is (w:World) (g o c x y z:Nat) (hg:g < w.heap.size) (h0:w.cell? ⟨g,o,none⟩ = some (.int .u32 (x:Int))) (h1:w.cell? ⟨g,o+1,none⟩ = some (.int .u32 (y:Int))) (hx:x < 4294967296) (hy:y < 4294967296) (hz:y * 4294967296+x = z) :
  Calls Tryd.prog 116 #[.slice (some ⟨g,o,none⟩) 2 c] w fun en w'=>en = .returned (.int .u64 (z:Int))∧Below w.heap.size w w':=by
 refine calls_sym Tryd.func116 rfl (by kernel_rfl) fun T hK=>?_
 replace hK:Kn T _ [(0,.slice (some ⟨g,o,none⟩) 2 c)]:=hK
 have hS:=Fb.begin w
 have hG:GsAt [] w:=trivial
 refine wp_symQ hS hG hK (fun p1=>[.v 2 (.int .u64 0)]) (fun p1=>[(0,.slice (some ⟨g,o,none⟩) 2 c),(2,.int .u64 0)]) (by kernel_rfl) (fun _ _=>by kernel_rfl) (fun _=>by kernel_rfl) (fun _=>by kernel_rfl) (fun p1=>?_) (fun p1 W1 T hF hK=>?_)
 ·refine ok_v (by kernel_rfl) ?_
  exact ok_nil
 replace hS:=SymF.fb hS hF [] [] (by kernel_rfl) (by kernel_rfl)
 replace hG:=hF.gx
 clear hF
 have z1:=hS.fr.size
 refine wp_symQ hS hG hK (fun p2=>[.v 3 (.slice (some ⟨g,o,none⟩) 2 c),.v 4 (.pointer (some ⟨g,o+1,none⟩)),.g 5 (.int .u32 (y:Int)) [.int .u32 (y:Int)] [.ld ⟨g,o+1,none⟩ (.int .u32 (y:Int))],.v 6 (.int .u64 (y:Int)),.v 7 (.int .u64 ((y * 4294967296:Nat):Int)),.v 8 (.slice (some ⟨g,o,none⟩) 2 c),.v 9 (.pointer (some ⟨g,o+0,none⟩)),.g 10 (.int .u32 (x:Int)) [.int .u32 (x:Int)] [.ld ⟨g,o+0,none⟩ (.int .u32 (x:Int))],.v 11 (.int .u64 (x:Int)),.v 12 (.int .u64 (z:Int)),.v 2 (.int .u64 (z:Int))]) (fun p2=>[(2,.int .u64 (z:Int))]) (by kernel_rfl) (fun _ _=>by kernel_rfl) (fun _=>by kernel_rfl) (fun _=>by kernel_rfl) (fun p2=>?_) (fun p2 W2 T hF hK=>?_)
 ·refine ok_v (by kernel_rfl) ?_
  refine ok_vr (script_isl (t:=63) (el:=42) (len:=2) (c:=c) (j:=1) (by kernel_rfl) (fun _=>by kernel_rfl) rfl (by omega)) (by kernel_rfl) ?_
  refine ok_g (fun W cx=>⟨⟨(cx.fr.cell (p:=⟨g,o+1,none⟩) hg).trans h1,trivial⟩,rfl⟩) (by kernel_rfl) ?_
  refine ok_vi (wpu (x:=(y:Int)) (by omega) (by omega)) (by kernel_rfl) ?_
  refine ok_vi (shl_32 hy) (by kernel_rfl) ?_
  refine ok_v (by kernel_rfl) ?_
  refine ok_vr (script_isl (t:=63) (el:=42) (len:=2) (c:=c) (j:=0) (by kernel_rfl) (fun _=>by kernel_rfl) rfl (by omega)) (by kernel_rfl) ?_
  refine ok_g (fun W cx=>⟨⟨(cx.fr.cell (p:=⟨g,o+0,none⟩) hg).trans h0,trivial⟩,rfl⟩) (by kernel_rfl) ?_
  refine ok_vi (wpu (x:=(x:Int)) (by omega) (by omega)) (by kernel_rfl) ?_
  refine ok_vi (or_32 hx hy hz) (by kernel_rfl) ?_
  refine ok_v (by kernel_rfl) ?_
  exact ok_nil
 replace hS:=SymF.fb hS hF [] [] (by kernel_rfl) (by kernel_rfl)
 replace hG:=hF.gx
 clear hF
 have z2:=hS.fr.size
 refine wp_ret ?_
 exact sym_end hS hK (.int .u64 (z:Int)) [] [] (by kernel_rfl) (by kernel_rfl) ⟨rfl,hS.fr⟩
theorem of128_is (w:World) (g o c H L:Nat) (X:Int) (hc:4≤c) (HH:Hid (∀ W:World,Below w.heap.size w W→Calls Tryd.prog 116 #[.slice (some ⟨g,o+2,none⟩) 2 (c - 2)] W fun e W'=>e = .returned (.int .u64 (H:Int))∧Below W.heap.size W W')) (HL:Hid (∀ W:World,Below w.heap.size w W→Calls Tryd.prog 116 #[.slice (some ⟨g,o+0,none⟩) 2 (c - 0)] W fun e W'=>e = .returned (.int .u64 (L:Int))∧Below W.heap.size W W')) :
  Calls Tryd.prog 94 #[.agg #[.slice (some ⟨g,o,none⟩) 4 c],.int .i64 X] w fun en w'=>en = .returned (.agg #[.int .u64 (H:Int),.int .u64 (L:Int),.int .i64 X])∧Below w.heap.size w w':=by
 refine calls_sym Tryd.func94 rfl (by kernel_rfl) fun T hK=>?_
 replace hK:Kn T _ [(0,.agg #[.slice (some ⟨g,o,none⟩) 4 c]),(1,.int .i64 X)]:=hK
 have hS:=Fb.begin w
 have hG:GsAt [] w:=trivial
 refine wp_symQ hS hG hK (fun p1=>[.n 2 #[.slice (some ⟨g,o,none⟩) 4 c] 65,.n 4 #[.int .u64 0,.int .u64 0,.int .i64 0] 78]) (fun p1=>[(1,.int .i64 X),(2,.pointer (some ⟨(p1 0).N,0,none⟩)),(4,.pointer (some ⟨(p1 1).N,0,none⟩))]) (by kernel_rfl) (fun _ _=>by kernel_rfl) (fun _=>by kernel_rfl) (fun _=>by kernel_rfl) (fun p1=>?_) (fun p1 W1 T hF hK=>?_)
 ·iterate 2 refine ok_n (fun _=>by kernel_rfl) ?_
  exact ok_nil
 replace hS:=SymF.fb hS hF [1000,1001] [⟨(p1 0).N,#[.slice (some ⟨g,o,none⟩) 4 c],65,true⟩,⟨(p1 1).N,#[.int .u64 0,.int .u64 0,.int .i64 0],78,true⟩] (by kernel_rfl) (by kernel_rfl)
 replace hG:=hF.gx
 clear hF
 have z1:=hS.fr.size
 refine wp_symQ hS hG hK (fun p2=>[.v 5 (.pointer (some ⟨(p1 0).N,0,none⟩)),.l 6 (.slice (some ⟨g,o,none⟩) 4 c) 0 0,.v 7 (.slice (some ⟨g,o+2,none⟩) 2 (c - 2)),.c (some 8) (cV (.int .u64 (H:Int))),.v 9 (.pointer (some ⟨(p1 0).N,0,none⟩)),.l 10 (.slice (some ⟨g,o,none⟩) 4 c) 0 0,.v 11 (.slice (some ⟨g,o+0,none⟩) 2 (c - 0)),.c (some 12) (cV (.int .u64 (L:Int))),.v 13 (.int .i64 X),.v 14 (.agg #[.int .u64 (H:Int),.int .u64 (L:Int),.int .i64 X]),.p 1 0 [.int .u64 (H:Int),.int .u64 (L:Int),.int .i64 X]]) (fun p2=>[(4,.pointer (some ⟨(p1 1).N,0,none⟩))]) (by kernel_rfl) (fun _ _=>by kernel_rfl) (fun _=>by kernel_rfl) (fun _=>by kernel_rfl) (fun p2=>?_) (fun p2 W2 T hF hK=>?_)
 ·refine ok_v (by kernel_rfl) ?_
  refine ok_L (by kernel_rfl) (by kernel_rfl) (by kernel_rfl) ?_
  refine ok_vr (script_subsl (t:=63) (el:=42) (n:=4) (l:=2) (h:=4) (by kernel_rfl) (fun _=>by kernel_rfl) rfl rfl (by omega) (by omega) (by omega)) (by kernel_rfl) ?_
  refine ok_c (fun W cx=>as_v (unhide HH _ cx.fr)) (by kernel_rfl) ?_
  refine ok_v (by kernel_rfl) ?_
  refine ok_L (by kernel_rfl) (by kernel_rfl) (by kernel_rfl) ?_
  refine ok_vr (script_subsl (t:=63) (el:=42) (n:=4) (l:=0) (h:=2) (by kernel_rfl) (fun _=>by kernel_rfl) rfl rfl (by omega) (by omega) (by omega)) (by kernel_rfl) ?_
  refine ok_c (fun W cx=>as_v (unhide HL _ cx.fr)) (by kernel_rfl) ?_
  iterate 2 refine ok_v (by kernel_rfl) ?_
  refine ok_P (by kernel_rfl) (by kernel_rfl) (by kernel_rfl) ?_
  exact ok_nil
 replace hS:=SymF.fb hS hF [1] [⟨(p1 1).N,#[.int .u64 (H:Int),.int .u64 (L:Int),.int .i64 X],78,true⟩] (by kernel_rfl) (by kernel_rfl)
 replace hG:=hF.gx
 clear hF
 have z2:=hS.fr.size
 refine wp_ret ?_
 exact sym_end hS hK (.agg #[.int .u64 (H:Int),.int .u64 (L:Int),.int .i64 X]) [(0,0,3)] [.int .u64 (H:Int),.int .u64 (L:Int),.int .i64 X] (by kernel_rfl) (by kernel_rfl) ⟨rfl,hS.fr⟩
theorem hten_is (w:World) (j p s e t H L:Nat) (hj:j≤400) (hp:5 ^ j = p) (hpe:p < 2 ^ e) (he:e≤4000) (hs:Bl p s) (hs2:s≤4000) (hs3:128≤s) (ht:p / 2 ^ (s - 128) = t) (HO:Hid (∀ (W:World) (B:Nat) (a:Option Addr) (n c:Nat),Mine W B a n c t→Calls Tryd.prog 94 #[.agg #[.slice a n c],.int .i64 ((j:Int)+(s:Int) - 128)] W fun en W'=>en = .returned (.agg #[.int .u64 (H:Int),.int .u64 (L:Int),.int .i64 ((j:Int)+(s:Int) - 128)])∧Below W.heap.size W W'))  :
  Calls Tryd.prog 62 #[.int .i64 (j:Int)] w fun en w'=>en = .returned (.agg #[.int .u64 (H:Int),.int .u64 (L:Int),.int .i64 ((j:Int)+(s:Int) - 128)])∧Below w.heap.size w w':=by
 refine calls_sym Tryd.func62 rfl (by kernel_rfl) fun T hK=>?_
 replace hK:Kn T _ [(0,.int .i64 (j:Int))]:=hK
 have hS:=Fb.begin w
 have hG:GsAt [] w:=trivial
 refine wp_symQ hS hG hK (fun p1=>[.n 2 #[.int .u64 0,.int .u64 0,.int .i64 0] 78]) (fun p1=>[(0,.int .i64 (j:Int)),(2,.pointer (some ⟨(p1 0).N,0,none⟩))]) (by kernel_rfl) (fun _ _=>by kernel_rfl) (fun _=>by kernel_rfl) (fun _=>by kernel_rfl) (fun p1=>?_) (fun p1 W1 T hF hK=>?_)
 ·refine ok_n (fun _=>by kernel_rfl) ?_
  exact ok_nil
 replace hS:=SymF.fb hS hF [1000] [⟨(p1 0).N,#[.int .u64 0,.int .u64 0,.int .i64 0],78,true⟩] (by kernel_rfl) (by kernel_rfl)
 replace hG:=hF.gx
 clear hF
 have z1:=hS.fr.size
 refine wp_symQ hS hG hK (fun p2=>[.v 10 (.int .i64 (j:Int)),.c (some 11) (cO W1.heap.size p),.v 9 (.tuple #[.agg #[.slice (p2 1).A (p2 1).N (p2 1).C],.int .i64 0]),.v 12 (.agg #[.slice (p2 1).A (p2 1).N (p2 1).C]),.v 13 (.int .i64 0),.n 3 #[.slice none 0 0] 65,.p 1005 0 [.slice (p2 1).A (p2 1).N (p2 1).C],.v 4 (.int .i64 0)]) (fun p2=>[(0,.int .i64 (j:Int)),(2,.pointer (some ⟨(p1 0).N,0,none⟩)),(3,.pointer (some ⟨(p2 5).N,0,none⟩))]) (by kernel_rfl) (fun _ _=>by kernel_rfl) (fun _=>by kernel_rfl) (fun _=>by kernel_rfl) (fun p2=>?_) (fun p2 W2 T hF hK=>?_)
 ·refine ok_v (by kernel_rfl) ?_
  refine ok_c (fun W cx=>as_o cx.hb (npow_is (b:=5) hp hpe (by omega) (by decide) (by omega) _)) (by kernel_rfl) ?_
  iterate 3 refine ok_v (by kernel_rfl) ?_
  refine ok_n (fun _=>by kernel_rfl) ?_
  refine ok_P (by kernel_rfl) (by kernel_rfl) (by kernel_rfl) ?_
  refine ok_v (by kernel_rfl) ?_
  exact ok_nil
 replace hS:=SymF.fb hS hF [0,1005] [⟨(p1 0).N,#[.int .u64 0,.int .u64 0,.int .i64 0],78,true⟩,⟨(p2 5).N,#[.slice (p2 1).A (p2 1).N (p2 1).C],65,true⟩] (by kernel_rfl) (by kernel_rfl)
 replace hG:GsAt (gM W1.heap.size (p2 1).A (p2 1).N (p2 1).C p :: _) W2:=⟨hF.fx 1,hF.gx⟩
 clear hF
 have z2:=hS.fr.size
 refine wp_symQ hS hG hK (fun p3=>[.l 15 (.agg #[.slice (p2 1).A (p2 1).N (p2 1).C]) 1 0,.c (some 16) (cV (.tuple #[.int .i64 (s:Int),.int .i64 0])),.v 14 (.tuple #[.int .i64 (s:Int),.int .i64 0]),.v 17 (.int .i64 (s:Int)),.v 18 (.int .i64 0),.v 5 (.int .i64 (s:Int)),.v 6 (.int .i64 0)]) (fun p3=>[(0,.int .i64 (j:Int)),(2,.pointer (some ⟨(p1 0).N,0,none⟩)),(3,.pointer (some ⟨(p2 5).N,0,none⟩)),(5,.int .i64 (s:Int))]) (by kernel_rfl) (fun _ _=>by kernel_rfl) (fun _=>by kernel_rfl) (fun _=>by kernel_rfl) (fun p3=>?_) (fun p3 W3 T hF hK=>?_)
 ·refine ok_L (by kernel_rfl) (by kernel_rfl) (by kernel_rfl) ?_
  refine ok_c (fun W cx=>as_v (nbits_is hs _ _ _ (p2 1).C (Mine.num cx.G.1))) (by kernel_rfl) ?_
  iterate 5 refine ok_v (by kernel_rfl) ?_
  exact ok_nil
 replace hS:=SymF.fb hS hF [0,1] [⟨(p1 0).N,#[.int .u64 0,.int .u64 0,.int .i64 0],78,true⟩,⟨(p2 5).N,#[.slice (p2 1).A (p2 1).N (p2 1).C],65,true⟩] (by kernel_rfl) (by kernel_rfl)
 replace hG:=hF.gx
 clear hF
 have z3:=hS.fr.size
 refine wp_symQ hS hG hK (fun p4=>[.l 20 (.agg #[.slice (p2 1).A (p2 1).N (p2 1).C]) 1 0,.v 21 (.int .i64 (s:Int)),.v 22 (.int .i64 ((s - 128:Nat):Int)),.c (some 23) (cO W3.heap.size t),.v 19 (.tuple #[.agg #[.slice (p4 3).A (p4 3).N (p4 3).C],.int .i64 0]),.v 24 (.agg #[.slice (p4 3).A (p4 3).N (p4 3).C]),.v 25 (.int .i64 0),.n 7 #[.slice none 0 0] 65,.p 1007 0 [.slice (p4 3).A (p4 3).N (p4 3).C],.v 8 (.int .i64 0)]) (fun p4=>[(0,.int .i64 (j:Int)),(2,.pointer (some ⟨(p1 0).N,0,none⟩)),(5,.int .i64 (s:Int)),(7,.pointer (some ⟨(p4 7).N,0,none⟩))]) (by kernel_rfl) (fun _ _=>by kernel_rfl) (fun _=>by kernel_rfl) (fun _=>by kernel_rfl) (fun p4=>?_) (fun p4 W4 T hF hK=>?_)
 ·refine ok_L (by kernel_rfl) (by kernel_rfl) (by kernel_rfl) ?_
  refine ok_v (by kernel_rfl) ?_
  refine ok_vi ((wr64 (x:=(s:Int) - 128) (by omega) (by omega)).trans (by omega)) (by kernel_rfl) ?_
  refine ok_c (fun W cx=>as_o cx.hb (ndown_is (k:=s - 128) ht (by omega) (cx.G.1))) (by kernel_rfl) ?_
  iterate 3 refine ok_v (by kernel_rfl) ?_
  refine ok_n (fun _=>by kernel_rfl) ?_
  refine ok_P (by kernel_rfl) (by kernel_rfl) (by kernel_rfl) ?_
  refine ok_v (by kernel_rfl) ?_
  exact ok_nil
 replace hS:=SymF.fb hS hF [0,1007] [⟨(p1 0).N,#[.int .u64 0,.int .u64 0,.int .i64 0],78,true⟩,⟨(p4 7).N,#[.slice (p4 3).A (p4 3).N (p4 3).C],65,true⟩] (by kernel_rfl) (by kernel_rfl)
 replace hG:GsAt (gM W3.heap.size (p4 3).A (p4 3).N (p4 3).C t :: _) W4:=⟨hF.fx 3,hF.gx⟩
 clear hF
 have z4:=hS.fr.size
 refine wp_symQ hS hG hK (fun p5=>[.l 26 (.agg #[.slice (p4 3).A (p4 3).N (p4 3).C]) 1 0,.v 27 (.int .i64 (j:Int)),.v 28 (.int .i64 (s:Int)),.v 29 (.int .i64 ((j:Int)+(s:Int))),.v 30 (.int .i64 ((j:Int)+(s:Int) - 128)),.c (some 31) (cV (.agg #[.int .u64 (H:Int),.int .u64 (L:Int),.int .i64 ((j:Int)+(s:Int) - 128)])),.p 0 0 [.int .u64 (H:Int),.int .u64 (L:Int),.int .i64 ((j:Int)+(s:Int) - 128)]]) (fun p5=>[(2,.pointer (some ⟨(p1 0).N,0,none⟩))]) (by kernel_rfl) (fun _ _=>by kernel_rfl) (fun _=>by kernel_rfl) (fun _=>by kernel_rfl) (fun p5=>?_) (fun p5 W5 T hF hK=>?_)
 ·refine ok_L (by kernel_rfl) (by kernel_rfl) (by kernel_rfl) ?_
  iterate 2 refine ok_v (by kernel_rfl) ?_
  refine ok_vi (wr64 (x:=(j:Int)+(s:Int)) (by omega) (by omega)) (by kernel_rfl) ?_
  refine ok_vi (wr64 (x:=((j:Int)+(s:Int) - 128)) (by omega) (by omega)) (by kernel_rfl) ?_
  refine ok_c (fun W cx=>as_v (unhide HO _ _ _ _ _ (cx.G.1))) (by kernel_rfl) ?_
  refine ok_P (by kernel_rfl) (by kernel_rfl) (by kernel_rfl) ?_
  exact ok_nil
 replace hS:=SymF.fb hS hF [0] [⟨(p1 0).N,#[.int .u64 (H:Int),.int .u64 (L:Int),.int .i64 ((j:Int)+(s:Int) - 128)],78,true⟩] (by kernel_rfl) (by kernel_rfl)
 replace hG:=hF.gx
 clear hF
 have z5:=hS.fr.size
 refine wp_ret ?_
 exact sym_end hS hK (.agg #[.int .u64 (H:Int),.int .u64 (L:Int),.int .i64 ((j:Int)+(s:Int) - 128)]) [(0,0,3)] [.int .u64 (H:Int),.int .u64 (L:Int),.int .i64 ((j:Int)+(s:Int) - 128)] (by kernel_rfl) (by kernel_rfl) ⟨rfl,hS.fr⟩
theorem lten_is (w:World) (j p s e t H L:Nat) (hj:j≤400) (hp:5 ^ j = p) (hpe:p < 2 ^ e) (he:e≤4000) (hs:Bl p s) (hs2:s≤4000) (hp0:p≠0) (ht:1 * 2 ^ (s+127) = t) (hte:t < 2 ^ e) (HO:Hid (∀ (W:World) (B:Nat) (a:Option Addr) (n c:Nat),Mine W B a n c (t / p)→Calls Tryd.prog 94 #[.agg #[.slice a n c],.int .i64 (-(j:Int) - (s:Int) - 127)] W fun en W'=>en = .returned (.agg #[.int .u64 (H:Int),.int .u64 (L:Int),.int .i64 (-(j:Int) - (s:Int) - 127)])∧Below W.heap.size W W'))  :
  Calls Tryd.prog 60 #[.int .i64 (-(j:Int))] w fun en w'=>en = .returned (.agg #[.int .u64 (H:Int),.int .u64 (L:Int),.int .i64 (-(j:Int) - (s:Int) - 127)])∧Below w.heap.size w w':=by
 refine calls_sym Tryd.func60 rfl (by kernel_rfl) fun T hK=>?_
 replace hK:Kn T _ [(0,.int .i64 (-(j:Int)))]:=hK
 have hS:=Fb.begin w
 have hG:GsAt [] w:=trivial
 refine wp_symQ hS hG hK (fun p1=>[.n 2 #[.int .u64 0,.int .u64 0,.int .i64 0] 78]) (fun p1=>[(0,.int .i64 (-(j:Int))),(2,.pointer (some ⟨(p1 0).N,0,none⟩))]) (by kernel_rfl) (fun _ _=>by kernel_rfl) (fun _=>by kernel_rfl) (fun _=>by kernel_rfl) (fun p1=>?_) (fun p1 W1 T hF hK=>?_)
 ·refine ok_n (fun _=>by kernel_rfl) ?_
  exact ok_nil
 replace hS:=SymF.fb hS hF [1000] [⟨(p1 0).N,#[.int .u64 0,.int .u64 0,.int .i64 0],78,true⟩] (by kernel_rfl) (by kernel_rfl)
 replace hG:=hF.gx
 clear hF
 have z1:=hS.fr.size
 refine wp_symQ hS hG hK (fun p2=>[.v 13 (.int .i64 (-(j:Int))),.v 14 (.int .i64 (j:Int)),.c (some 15) (cO W1.heap.size p),.v 12 (.tuple #[.agg #[.slice (p2 2).A (p2 2).N (p2 2).C],.int .i64 0]),.v 16 (.agg #[.slice (p2 2).A (p2 2).N (p2 2).C]),.v 17 (.int .i64 0),.n 3 #[.slice none 0 0] 65,.p 1006 0 [.slice (p2 2).A (p2 2).N (p2 2).C],.v 4 (.int .i64 0)]) (fun p2=>[(0,.int .i64 (-(j:Int))),(2,.pointer (some ⟨(p1 0).N,0,none⟩)),(3,.pointer (some ⟨(p2 6).N,0,none⟩))]) (by kernel_rfl) (fun _ _=>by kernel_rfl) (fun _=>by kernel_rfl) (fun _=>by kernel_rfl) (fun p2=>?_) (fun p2 W2 T hF hK=>?_)
 ·refine ok_v (by kernel_rfl) ?_
  refine ok_vi ((wr64 (x:=0 - -(j:Int)) (by omega) (by omega)).trans (by omega)) (by kernel_rfl) ?_
  refine ok_c (fun W cx=>as_o cx.hb (npow_is (b:=5) hp hpe (by omega) (by decide) (by omega) _)) (by kernel_rfl) ?_
  iterate 3 refine ok_v (by kernel_rfl) ?_
  refine ok_n (fun _=>by kernel_rfl) ?_
  refine ok_P (by kernel_rfl) (by kernel_rfl) (by kernel_rfl) ?_
  refine ok_v (by kernel_rfl) ?_
  exact ok_nil
 replace hS:=SymF.fb hS hF [0,1006] [⟨(p1 0).N,#[.int .u64 0,.int .u64 0,.int .i64 0],78,true⟩,⟨(p2 6).N,#[.slice (p2 2).A (p2 2).N (p2 2).C],65,true⟩] (by kernel_rfl) (by kernel_rfl)
 replace hG:GsAt (gM W1.heap.size (p2 2).A (p2 2).N (p2 2).C p :: _) W2:=⟨hF.fx 2,hF.gx⟩
 clear hF
 have z2:=hS.fr.size
 refine wp_symQ hS hG hK (fun p3=>[.l 19 (.agg #[.slice (p2 2).A (p2 2).N (p2 2).C]) 1 0,.c (some 20) (cV (.tuple #[.int .i64 (s:Int),.int .i64 0])),.v 18 (.tuple #[.int .i64 (s:Int),.int .i64 0]),.v 21 (.int .i64 (s:Int)),.v 22 (.int .i64 0),.v 5 (.int .i64 (s:Int)),.v 6 (.int .i64 0)]) (fun p3=>[(0,.int .i64 (-(j:Int))),(2,.pointer (some ⟨(p1 0).N,0,none⟩)),(3,.pointer (some ⟨(p2 6).N,0,none⟩)),(5,.int .i64 (s:Int))]) (by kernel_rfl) (fun _ _=>by kernel_rfl) (fun _=>by kernel_rfl) (fun _=>by kernel_rfl) (fun p3=>?_) (fun p3 W3 T hF hK=>?_)
 ·refine ok_L (by kernel_rfl) (by kernel_rfl) (by kernel_rfl) ?_
  refine ok_c (fun W cx=>as_v (nbits_is hs _ _ _ (p2 2).C (Mine.num cx.G.1))) (by kernel_rfl) ?_
  iterate 5 refine ok_v (by kernel_rfl) ?_
  exact ok_nil
 replace hS:=SymF.fb hS hF [0,1] [⟨(p1 0).N,#[.int .u64 0,.int .u64 0,.int .i64 0],78,true⟩,⟨(p2 6).N,#[.slice (p2 2).A (p2 2).N (p2 2).C],65,true⟩] (by kernel_rfl) (by kernel_rfl)
 replace hG:=hF.gx
 clear hF
 have z3:=hS.fr.size
 refine wp_symQ hS hG hK (fun p4=>[.c (some 24) (cN W3.heap.size 1),.v 25 (.int .i64 (s:Int)),.v 26 (.int .i64 ((s+127:Nat):Int)),.c (some 27) (cO W3.heap.size t),.v 23 (.tuple #[.agg #[.slice (p4 3).A (p4 3).N (p4 3).C],.int .i64 0]),.v 28 (.agg #[.slice (p4 3).A (p4 3).N (p4 3).C]),.v 29 (.int .i64 0),.n 7 #[.slice none 0 0] 65,.p 1007 0 [.slice (p4 3).A (p4 3).N (p4 3).C],.v 8 (.int .i64 0)]) (fun p4=>[(0,.int .i64 (-(j:Int))),(2,.pointer (some ⟨(p1 0).N,0,none⟩)),(3,.pointer (some ⟨(p2 6).N,0,none⟩)),(5,.int .i64 (s:Int)),(7,.pointer (some ⟨(p4 7).N,0,none⟩))]) (by kernel_rfl) (fun _ _=>by kernel_rfl) (fun _=>by kernel_rfl) (fun _=>by kernel_rfl) (fun p4=>?_) (fun p4 W4 T hF hK=>?_)
 ·refine ok_c (fun W cx=>as_n cx.hb (of_any 1 _ (by decide))) (by kernel_rfl) ?_
  refine ok_v (by kernel_rfl) ?_
  refine ok_vi ((wr64 (x:=(s:Int)+127) (by omega) (by omega)).trans (by omega)) (by kernel_rfl) ?_
  refine ok_c (fun W cx=>as_o cx.hb (nup_is (k:=s+127) ht hte (by omega) (by omega) _ _ _ (p4 0).C (Mine.num (cx.F 0 (by kernel_rfl))))) (by kernel_rfl) ?_
  iterate 3 refine ok_v (by kernel_rfl) ?_
  refine ok_n (fun _=>by kernel_rfl) ?_
  refine ok_P (by kernel_rfl) (by kernel_rfl) (by kernel_rfl) ?_
  refine ok_v (by kernel_rfl) ?_
  exact ok_nil
 replace hS:=SymF.fb hS hF [0,1,1007] [⟨(p1 0).N,#[.int .u64 0,.int .u64 0,.int .i64 0],78,true⟩,⟨(p2 6).N,#[.slice (p2 2).A (p2 2).N (p2 2).C],65,true⟩,⟨(p4 7).N,#[.slice (p4 3).A (p4 3).N (p4 3).C],65,true⟩] (by kernel_rfl) (by kernel_rfl)
 replace hG:GsAt (gM W3.heap.size (p4 0).A (p4 0).N (p4 0).C 1 :: gM W3.heap.size (p4 3).A (p4 3).N (p4 3).C t :: _) W4:=⟨hF.fx 0,hF.fx 3,hF.gx⟩
 clear hF
 have z4:=hS.fr.size
 refine wp_symQ hS hG hK (fun p5=>[.l 31 (.agg #[.slice (p4 3).A (p4 3).N (p4 3).C]) 2 0,.l 32 (.agg #[.slice (p2 2).A (p2 2).N (p2 2).C]) 1 0,.c (some 33) (cD W4.heap.size (t / p) (t % p)),.v 30 (.tuple #[.agg #[.slice (p5 2).A (p5 2).N (p5 2).C],.agg #[.slice (p5 2).A' (p5 2).N' (p5 2).C'],.int .i64 0]),.v 34 (.agg #[.slice (p5 2).A (p5 2).N (p5 2).C]),.v 35 (.agg #[.slice (p5 2).A' (p5 2).N' (p5 2).C']),.v 36 (.int .i64 0),.n 9 #[.slice none 0 0] 65,.n 10 #[.slice none 0 0] 65,.p 1007 0 [.slice (p5 2).A (p5 2).N (p5 2).C],.p 1008 0 [.slice (p5 2).A' (p5 2).N' (p5 2).C'],.v 11 (.int .i64 0)]) (fun p5=>[(0,.int .i64 (-(j:Int))),(2,.pointer (some ⟨(p1 0).N,0,none⟩)),(5,.int .i64 (s:Int)),(9,.pointer (some ⟨(p5 7).N,0,none⟩))]) (by kernel_rfl) (fun _ _=>by kernel_rfl) (fun _=>by kernel_rfl) (fun _=>by kernel_rfl) (fun p5=>?_) (fun p5 W5 T hF hK=>?_)
 ·iterate 2 refine ok_L (by kernel_rfl) (by kernel_rfl) (by kernel_rfl) ?_
  refine ok_c (fun W cx=>as_d cx.hb (ndiv_is hp0 _ _ _ (p4 3).C _ _ (p2 2).C (Mine.num cx.G.2.1) (Mine.num cx.G.2.2.1))) (by kernel_rfl) ?_
  iterate 4 refine ok_v (by kernel_rfl) ?_
  iterate 2 refine ok_n (fun _=>by kernel_rfl) ?_
  iterate 2 refine ok_P (by kernel_rfl) (by kernel_rfl) (by kernel_rfl) ?_
  refine ok_v (by kernel_rfl) ?_
  exact ok_nil
 replace hS:=SymF.fb hS hF [0,1007] [⟨(p1 0).N,#[.int .u64 0,.int .u64 0,.int .i64 0],78,true⟩,⟨(p5 7).N,#[.slice (p5 2).A (p5 2).N (p5 2).C],65,true⟩] (by kernel_rfl) (by kernel_rfl)
 replace hG:GsAt (gM W4.heap.size (p5 2).A (p5 2).N (p5 2).C (t / p) :: gM W4.heap.size (p5 2).A' (p5 2).N' (p5 2).C' (t % p) :: _) W5:=⟨And.left (hF.fx 2),And.right (hF.fx 2),hF.gx⟩
 clear hF
 have z5:=hS.fr.size
 refine wp_symQ hS hG hK (fun p6=>[.l 37 (.agg #[.slice (p5 2).A (p5 2).N (p5 2).C]) 1 0,.v 38 (.int .i64 (-(j:Int))),.v 39 (.int .i64 (s:Int)),.v 40 (.int .i64 (-(j:Int) - (s:Int))),.v 41 (.int .i64 (-(j:Int) - (s:Int) - 127)),.c (some 42) (cV (.agg #[.int .u64 (H:Int),.int .u64 (L:Int),.int .i64 (-(j:Int) - (s:Int) - 127)])),.p 0 0 [.int .u64 (H:Int),.int .u64 (L:Int),.int .i64 (-(j:Int) - (s:Int) - 127)]]) (fun p6=>[(2,.pointer (some ⟨(p1 0).N,0,none⟩))]) (by kernel_rfl) (fun _ _=>by kernel_rfl) (fun _=>by kernel_rfl) (fun _=>by kernel_rfl) (fun p6=>?_) (fun p6 W6 T hF hK=>?_)
 ·refine ok_L (by kernel_rfl) (by kernel_rfl) (by kernel_rfl) ?_
  iterate 2 refine ok_v (by kernel_rfl) ?_
  refine ok_vi (wr64 (x:=-(j:Int) - (s:Int)) (by omega) (by omega)) (by kernel_rfl) ?_
  refine ok_vi (wr64 (x:=(-(j:Int) - (s:Int) - 127)) (by omega) (by omega)) (by kernel_rfl) ?_
  refine ok_c (fun W cx=>as_v (unhide HO _ _ _ _ _ (cx.G.1))) (by kernel_rfl) ?_
  refine ok_P (by kernel_rfl) (by kernel_rfl) (by kernel_rfl) ?_
  exact ok_nil
 replace hS:=SymF.fb hS hF [0] [⟨(p1 0).N,#[.int .u64 (H:Int),.int .u64 (L:Int),.int .i64 (-(j:Int) - (s:Int) - 127)],78,true⟩] (by kernel_rfl) (by kernel_rfl)
 replace hG:=hF.gx
 clear hF
 have z6:=hS.fr.size
 refine wp_ret ?_
 exact sym_end hS hK (.agg #[.int .u64 (H:Int),.int .u64 (L:Int),.int .i64 (-(j:Int) - (s:Int) - 127)]) [(0,0,3)] [.int .u64 (H:Int),.int .u64 (L:Int),.int .i64 (-(j:Int) - (s:Int) - 127)] (by kernel_rfl) (by kernel_rfl) ⟨rfl,hS.fr⟩
theorem lz_is (w:World) (x l z:Nat) (hx:x < 18446744073709551616) (hl:Lib.bitLen x = l) (hz:l+z = 64) :
  Calls Tryd.prog 95 #[.int .u64 (x:Int)] w fun en w'=>en = .returned (.int .i64 (z:Int))∧Below w.heap.size w w':=by
 refine calls_sym Tryd.func95 rfl (by kernel_rfl) fun T hK=>?_
 replace hK:Kn T _ [(0,.int .u64 (x:Int))]:=hK
 have hS:=Fb.begin w
 have hG:GsAt [] w:=trivial
 refine wp_symQ hS hG hK (fun p1=>[.v 2 (.int .i64 0)]) (fun p1=>[(0,.int .u64 (x:Int)),(2,.int .i64 0)]) (by kernel_rfl) (fun _ _=>by kernel_rfl) (fun _=>by kernel_rfl) (fun _=>by kernel_rfl) (fun p1=>?_) (fun p1 W1 T hF hK=>?_)
 ·refine ok_v (by kernel_rfl) ?_
  exact ok_nil
 replace hS:=SymF.fb hS hF [] [] (by kernel_rfl) (by kernel_rfl)
 replace hG:=hF.gx
 clear hF
 have z1:=hS.fr.size
 refine wp_symQ hS hG hK (fun p2=>[.v 3 (.int .u64 (x:Int)),.c (some 4) (cV (.int .i64 (l:Int))),.v 5 (.int .i64 (z:Int)),.v 2 (.int .i64 (z:Int))]) (fun p2=>[(2,.int .i64 (z:Int))]) (by kernel_rfl) (fun _ _=>by kernel_rfl) (fun _=>by kernel_rfl) (fun _=>by kernel_rfl) (fun p2=>?_) (fun p2 W2 T hF hK=>?_)
 ·refine ok_v (by kernel_rfl) ?_
  refine ok_c (fun W cx=>as_v (len64_nat x l _ hx hl)) (by kernel_rfl) ?_
  refine ok_vi ((wr64 (x:=64 - (l:Int)) (by omega) (by omega)).trans (by omega)) (by kernel_rfl) ?_
  refine ok_v (by kernel_rfl) ?_
  exact ok_nil
 replace hS:=SymF.fb hS hF [] [] (by kernel_rfl) (by kernel_rfl)
 replace hG:=hF.gx
 clear hF
 have z2:=hS.fr.size
 refine wp_ret ?_
 exact sym_end hS hK (.int .i64 (z:Int)) [] [] (by kernel_rfl) (by kernel_rfl) ⟨rfl,hS.fr⟩
theorem pten_z (w:World) (j f g h l k z A C H L:Nat) (hT:Fv w) (hj:j≤54) (hf:min j 27 = f) (hg:f+g = j) (hfv:f≤27) (hh:5 ^ f * 5 ^ g / 18446744073709551616 = h) (hl:5 ^ f * 5 ^ g % 18446744073709551616 = l) (hf5:5 ^ f < 18446744073709551616) (hg5:5 ^ g < 18446744073709551616) (hh0:h = 0) (hlz:Lib.bitLen l = k) (hkz:k+z = 64) (hb64:l < 18446744073709551616) (hA:IntKind.u64.wrap ((l:Int) * 2 ^ min (z:Int).toNat 64) = (A:Int)) (hC:((0:Int)).fdiv (2 ^ min ((64 - z:Nat):Int).toNat 64) = (C:Int)) (hH:Go.bits .or .u64 (A:Int) (C:Int) = (H:Int)) (hL:IntKind.u64.wrap ((0:Int) * 2 ^ min (z:Int).toNat 64) = (L:Int))  :
  Calls Tryd.prog 61 #[.int .i64 (j:Int)] w fun en w'=>en = .returned (.agg #[.int .u64 (H:Int),.int .u64 (L:Int),.int .i64 ((j:Int) - 64 - (z:Int))])∧Below w.heap.size w w':=by
 refine calls_sym Tryd.func61 rfl (by kernel_rfl) fun T hK=>?_
 replace hK:Kn T _ [(0,.int .i64 (j:Int))]:=hK
 have hS:=Fb.begin w
 have hG:GsAt [] w:=trivial
 refine wp_symQ hS hG hK (fun p1=>[.n 2 #[.int .u64 0,.int .u64 0,.int .i64 0] 78]) (fun p1=>[(0,.int .i64 (j:Int)),(2,.pointer (some ⟨(p1 0).N,0,none⟩))]) (by kernel_rfl) (fun _ _=>by kernel_rfl) (fun _=>by kernel_rfl) (fun _=>by kernel_rfl) (fun p1=>?_) (fun p1 W1 T hF hK=>?_)
 ·refine ok_n (fun _=>by kernel_rfl) ?_
  exact ok_nil
 replace hS:=SymF.fb hS hF [1000] [⟨(p1 0).N,#[.int .u64 0,.int .u64 0,.int .i64 0],78,true⟩] (by kernel_rfl) (by kernel_rfl)
 replace hG:=hF.gx
 clear hF
 have z1:=hS.fr.size
 refine wp_symQ hS hG hK (fun p2=>[.v 8 (.int .i64 (j:Int)),.v 9 (.int .i64 (f:Int)),.v 3 (.int .i64 (f:Int))]) (fun p2=>[(0,.int .i64 (j:Int)),(2,.pointer (some ⟨(p1 0).N,0,none⟩)),(3,.int .i64 (f:Int))]) (by kernel_rfl) (fun _ _=>by kernel_rfl) (fun _=>by kernel_rfl) (fun _=>by kernel_rfl) (fun p2=>?_) (fun p2 W2 T hF hK=>?_)
 ·refine ok_v (by kernel_rfl) ?_
  refine ok_vi (pmin_is hf) (by kernel_rfl) ?_
  refine ok_v (by kernel_rfl) ?_
  exact ok_nil
 replace hS:=SymF.fb hS hF [0] [⟨(p1 0).N,#[.int .u64 0,.int .u64 0,.int .i64 0],78,true⟩] (by kernel_rfl) (by kernel_rfl)
 replace hG:=hF.gx
 clear hF
 have z2:=hS.fr.size
 refine wp_symQ hS hG hK (fun p3=>[.v 11 (.int .i64 (f:Int)),.v 12 (.pointer (some ⟨0,f,none⟩)),.g 13 (.int .u64 ((5 ^ f:Nat):Int)) [.int .u64 ((5 ^ f:Nat):Int)] [.ld ⟨0,f,none⟩ (.int .u64 ((5 ^ f:Nat):Int))],.v 14 (.int .i64 (j:Int)),.v 15 (.int .i64 (f:Int)),.v 16 (.int .i64 (g:Int)),.v 17 (.pointer (some ⟨0,g,none⟩)),.g 18 (.int .u64 ((5 ^ g:Nat):Int)) [.int .u64 ((5 ^ g:Nat):Int)] [.ld ⟨0,g,none⟩ (.int .u64 ((5 ^ g:Nat):Int))],.c (some 19) (cV (.tuple #[.int .u64 (h:Int),.int .u64 (l:Int)])),.v 10 (.tuple #[.int .u64 (h:Int),.int .u64 (l:Int)]),.v 20 (.int .u64 (h:Int)),.v 21 (.int .u64 (l:Int)),.v 4 (.int .u64 (h:Int)),.v 5 (.int .u64 (l:Int))]) (fun p3=>[(0,.int .i64 (j:Int)),(2,.pointer (some ⟨(p1 0).N,0,none⟩)),(4,.int .u64 (h:Int)),(5,.int .u64 (l:Int))]) (by kernel_rfl) (fun _ _=>by kernel_rfl) (fun _=>by kernel_rfl) (fun _=>by kernel_rfl) (fun p3=>?_) (fun p3 W3 T hF hK=>?_)
 ·refine ok_v (by kernel_rfl) ?_
  refine ok_vr (script_iarr (t:=83) (len:=28) (el:=22) (by kernel_rfl) (fun _=>by kernel_rfl) rfl (by omega)) (by kernel_rfl) ?_
  refine ok_g (fun W cx=>⟨⟨(hT.kept cx.fr).2 f (by omega),trivial⟩,rfl⟩) (by kernel_rfl) ?_
  iterate 2 refine ok_v (by kernel_rfl) ?_
  refine ok_vi ((wr64 (x:=(j:Int) - (f:Int)) (by omega) (by omega)).trans (by omega)) (by kernel_rfl) ?_
  refine ok_vr (script_iarr (t:=83) (len:=28) (el:=22) (by kernel_rfl) (fun _=>by kernel_rfl) rfl (by omega)) (by kernel_rfl) ?_
  refine ok_g (fun W cx=>⟨⟨(hT.kept cx.fr).2 g (by omega),trivial⟩,rfl⟩) (by kernel_rfl) ?_
  refine ok_c (fun W cx=>as_v (mul64_any (5 ^ f) (5 ^ g) h l hf5 hg5 hh hl _)) (by kernel_rfl) ?_
  iterate 5 refine ok_v (by kernel_rfl) ?_
  exact ok_nil
 replace hS:=SymF.fb hS hF [0] [⟨(p1 0).N,#[.int .u64 0,.int .u64 0,.int .i64 0],78,true⟩] (by kernel_rfl) (by kernel_rfl)
 replace hG:=hF.gx
 clear hF
 have z3:=hS.fr.size
 refine wp_symQ hS hG hK (fun p4=>[.v 22 (.int .i64 (j:Int)),.v 6 (.int .i64 (j:Int))]) (fun p4=>[(2,.pointer (some ⟨(p1 0).N,0,none⟩)),(4,.int .u64 (h:Int)),(5,.int .u64 (l:Int)),(6,.int .i64 (j:Int))]) (by kernel_rfl) (fun _ _=>by kernel_rfl) (fun _=>by kernel_rfl) (fun _=>by kernel_rfl) (fun p4=>?_) (fun p4 W4 T hF hK=>?_)
 ·iterate 2 refine ok_v (by kernel_rfl) ?_
  exact ok_nil
 replace hS:=SymF.fb hS hF [0] [⟨(p1 0).N,#[.int .u64 0,.int .u64 0,.int .i64 0],78,true⟩] (by kernel_rfl) (by kernel_rfl)
 replace hG:=hF.gx
 clear hF
 have z4:=hS.fr.size
 refine wp_seq ?_
 refine wp_symQ hS hG hK (fun p5=>[.v 23 (.int .u64 (h:Int)),.v 24 (.bool true)]) (fun p5=>[(2,.pointer (some ⟨(p1 0).N,0,none⟩)),(4,.int .u64 (h:Int)),(5,.int .u64 (l:Int)),(6,.int .i64 (j:Int)),(24,.bool true)]) (by kernel_rfl) (fun _ _=>by kernel_rfl) (fun _=>by kernel_rfl) (fun _=>by kernel_rfl) (fun p5=>?_) (fun p5 W5 T hF hK=>?_)
 ·refine ok_v (by kernel_rfl) ?_
  refine ok_vb (beq_iff_eq.2 (show (h:Int) = 0 by omega)) (by kernel_rfl) ?_
  exact ok_nil
 replace hS:=SymF.fb hS hF [0] [⟨(p1 0).N,#[.int .u64 0,.int .u64 0,.int .i64 0],78,true⟩] (by kernel_rfl) (by kernel_rfl)
 replace hG:=hF.gx
 clear hF
 have z5:=hS.fr.size
 refine wp_cond_true (hK.ev 24 (by kernel_rfl) _ (by kernel_rfl)) ?_
 refine wp_symQ hS hG hK (fun p6=>[.v 25 (.int .u64 (l:Int)),.v 4 (.int .u64 (l:Int)),.v 5 (.int .u64 0)]) (fun p6=>[(2,.pointer (some ⟨(p1 0).N,0,none⟩)),(4,.int .u64 (l:Int)),(5,.int .u64 0),(6,.int .i64 (j:Int)),(24,.bool true)]) (by kernel_rfl) (fun _ _=>by kernel_rfl) (fun _=>by kernel_rfl) (fun _=>by kernel_rfl) (fun p6=>?_) (fun p6 W6 T hF hK=>?_)
 ·iterate 3 refine ok_v (by kernel_rfl) ?_
  exact ok_nil
 replace hS:=SymF.fb hS hF [0] [⟨(p1 0).N,#[.int .u64 0,.int .u64 0,.int .i64 0],78,true⟩] (by kernel_rfl) (by kernel_rfl)
 replace hG:=hF.gx
 clear hF
 have z6:=hS.fr.size
 refine wp_symG hS hG hK (fun p7=>[.v 26 (.int .i64 (j:Int)),.v 27 (.int .i64 ((j:Int) - 64)),.v 6 (.int .i64 ((j:Int) - 64))]) (fun p7=>[(2,.pointer (some ⟨(p1 0).N,0,none⟩)),(4,.int .u64 (l:Int)),(5,.int .u64 0),(6,.int .i64 ((j:Int) - 64)),(24,.bool true)]) (by kernel_rfl) (fun _ _=>by kernel_rfl) (fun _=>by kernel_rfl) (fun _=>by kernel_rfl) (fun p7=>?_) (fun p7 W7 T hF hK=>?_)
 ·refine ok_v (by kernel_rfl) ?_
  refine ok_vi (wr64 (x:=(j:Int) - 64) (by omega) (by omega)) (by kernel_rfl) ?_
  refine ok_v (by kernel_rfl) ?_
  exact ok_nil
 replace hS:=SymF.fb hS hF [0] [⟨(p1 0).N,#[.int .u64 0,.int .u64 0,.int .i64 0],78,true⟩] (by kernel_rfl) (by kernel_rfl)
 replace hG:=hF.gx
 clear hF
 have z7:=hS.fr.size
 refine then_n ?_
 refine wp_symQ hS hG hK (fun p8=>[.v 28 (.int .u64 (l:Int)),.c (some 29) (cV (.int .i64 (z:Int))),.v 7 (.int .i64 (z:Int))]) (fun p8=>[(2,.pointer (some ⟨(p1 0).N,0,none⟩)),(4,.int .u64 (l:Int)),(5,.int .u64 0),(6,.int .i64 ((j:Int) - 64)),(7,.int .i64 (z:Int)),(24,.bool true)]) (by kernel_rfl) (fun _ _=>by kernel_rfl) (fun _=>by kernel_rfl) (fun _=>by kernel_rfl) (fun p8=>?_) (fun p8 W8 T hF hK=>?_)
 ·refine ok_v (by kernel_rfl) ?_
  refine ok_c (fun W cx=>as_v (lz_is _ l k z hb64 hlz hkz)) (by kernel_rfl) ?_
  refine ok_v (by kernel_rfl) ?_
  exact ok_nil
 replace hS:=SymF.fb hS hF [0] [⟨(p1 0).N,#[.int .u64 0,.int .u64 0,.int .i64 0],78,true⟩] (by kernel_rfl) (by kernel_rfl)
 replace hG:=hF.gx
 clear hF
 have z8:=hS.fr.size
 refine wp_symQ hS hG hK (fun p9=>[.v 30 (.int .u64 (l:Int)),.v 31 (.int .i64 (z:Int)),.v 32 (.int .u64 (A:Int)),.v 33 (.int .u64 0),.v 34 (.int .i64 (z:Int)),.v 35 (.int .i64 ((64 - z:Nat):Int)),.v 36 (.int .u64 (C:Int)),.v 37 (.int .u64 (H:Int)),.v 38 (.int .u64 0),.v 39 (.int .i64 (z:Int)),.v 40 (.int .u64 (L:Int)),.v 41 (.int .i64 ((j:Int) - 64)),.v 42 (.int .i64 (z:Int)),.v 43 (.int .i64 ((j:Int) - 64 - (z:Int))),.v 44 (.agg #[.int .u64 (H:Int),.int .u64 (L:Int),.int .i64 ((j:Int) - 64 - (z:Int))]),.p 0 0 [.int .u64 (H:Int),.int .u64 (L:Int),.int .i64 ((j:Int) - 64 - (z:Int))]]) (fun p9=>[(2,.pointer (some ⟨(p1 0).N,0,none⟩)),(24,.bool true)]) (by kernel_rfl) (fun _ _=>by kernel_rfl) (fun _=>by kernel_rfl) (fun _=>by kernel_rfl) (fun p9=>?_) (fun p9 W9 T hF hK=>?_)
 ·iterate 2 refine ok_v (by kernel_rfl) ?_
  refine ok_vi (hA) (by kernel_rfl) ?_
  iterate 2 refine ok_v (by kernel_rfl) ?_
  refine ok_vi ((wr64 (x:=64 - (z:Int)) (by omega) (by omega)).trans (by omega)) (by kernel_rfl) ?_
  refine ok_vi (hC) (by kernel_rfl) ?_
  refine ok_vi (hH) (by kernel_rfl) ?_
  iterate 2 refine ok_v (by kernel_rfl) ?_
  refine ok_vi (hL) (by kernel_rfl) ?_
  iterate 2 refine ok_v (by kernel_rfl) ?_
  refine ok_vi (wr64 (x:=((j:Int) - 64 - (z:Int))) (by omega) (by omega)) (by kernel_rfl) ?_
  refine ok_v (by kernel_rfl) ?_
  refine ok_P (by kernel_rfl) (by kernel_rfl) (by kernel_rfl) ?_
  exact ok_nil
 replace hS:=SymF.fb hS hF [0] [⟨(p1 0).N,#[.int .u64 (H:Int),.int .u64 (L:Int),.int .i64 ((j:Int) - 64 - (z:Int))],78,true⟩] (by kernel_rfl) (by kernel_rfl)
 replace hG:=hF.gx
 clear hF
 have z9:=hS.fr.size
 refine wp_ret ?_
 exact sym_end hS hK (.agg #[.int .u64 (H:Int),.int .u64 (L:Int),.int .i64 ((j:Int) - 64 - (z:Int))]) [(0,0,3)] [.int .u64 (H:Int),.int .u64 (L:Int),.int .i64 ((j:Int) - 64 - (z:Int))] (by kernel_rfl) (by kernel_rfl) ⟨rfl,hS.fr⟩
theorem pten_n (w:World) (j f g h l k z A C H L:Nat) (hT:Fv w) (hj:j≤54) (hf:min j 27 = f) (hg:f+g = j) (hfv:f≤27) (hh:5 ^ f * 5 ^ g / 18446744073709551616 = h) (hl:5 ^ f * 5 ^ g % 18446744073709551616 = l) (hf5:5 ^ f < 18446744073709551616) (hg5:5 ^ g < 18446744073709551616) (hh0:h≠0) (hlz:Lib.bitLen h = k) (hkz:k+z = 64) (hb64:h < 18446744073709551616) (hA:IntKind.u64.wrap ((h:Int) * 2 ^ min (z:Int).toNat 64) = (A:Int)) (hC:((l:Int)).fdiv (2 ^ min ((64 - z:Nat):Int).toNat 64) = (C:Int)) (hH:Go.bits .or .u64 (A:Int) (C:Int) = (H:Int)) (hL:IntKind.u64.wrap ((l:Int) * 2 ^ min (z:Int).toNat 64) = (L:Int))  :
  Calls Tryd.prog 61 #[.int .i64 (j:Int)] w fun en w'=>en = .returned (.agg #[.int .u64 (H:Int),.int .u64 (L:Int),.int .i64 ((j:Int) - (z:Int))])∧Below w.heap.size w w':=by
 refine calls_sym Tryd.func61 rfl (by kernel_rfl) fun T hK=>?_
 replace hK:Kn T _ [(0,.int .i64 (j:Int))]:=hK
 have hS:=Fb.begin w
 have hG:GsAt [] w:=trivial
 refine wp_symQ hS hG hK (fun p1=>[.n 2 #[.int .u64 0,.int .u64 0,.int .i64 0] 78]) (fun p1=>[(0,.int .i64 (j:Int)),(2,.pointer (some ⟨(p1 0).N,0,none⟩))]) (by kernel_rfl) (fun _ _=>by kernel_rfl) (fun _=>by kernel_rfl) (fun _=>by kernel_rfl) (fun p1=>?_) (fun p1 W1 T hF hK=>?_)
 ·refine ok_n (fun _=>by kernel_rfl) ?_
  exact ok_nil
 replace hS:=SymF.fb hS hF [1000] [⟨(p1 0).N,#[.int .u64 0,.int .u64 0,.int .i64 0],78,true⟩] (by kernel_rfl) (by kernel_rfl)
 replace hG:=hF.gx
 clear hF
 have z1:=hS.fr.size
 refine wp_symQ hS hG hK (fun p2=>[.v 8 (.int .i64 (j:Int)),.v 9 (.int .i64 (f:Int)),.v 3 (.int .i64 (f:Int))]) (fun p2=>[(0,.int .i64 (j:Int)),(2,.pointer (some ⟨(p1 0).N,0,none⟩)),(3,.int .i64 (f:Int))]) (by kernel_rfl) (fun _ _=>by kernel_rfl) (fun _=>by kernel_rfl) (fun _=>by kernel_rfl) (fun p2=>?_) (fun p2 W2 T hF hK=>?_)
 ·refine ok_v (by kernel_rfl) ?_
  refine ok_vi (pmin_is hf) (by kernel_rfl) ?_
  refine ok_v (by kernel_rfl) ?_
  exact ok_nil
 replace hS:=SymF.fb hS hF [0] [⟨(p1 0).N,#[.int .u64 0,.int .u64 0,.int .i64 0],78,true⟩] (by kernel_rfl) (by kernel_rfl)
 replace hG:=hF.gx
 clear hF
 have z2:=hS.fr.size
 refine wp_symQ hS hG hK (fun p3=>[.v 11 (.int .i64 (f:Int)),.v 12 (.pointer (some ⟨0,f,none⟩)),.g 13 (.int .u64 ((5 ^ f:Nat):Int)) [.int .u64 ((5 ^ f:Nat):Int)] [.ld ⟨0,f,none⟩ (.int .u64 ((5 ^ f:Nat):Int))],.v 14 (.int .i64 (j:Int)),.v 15 (.int .i64 (f:Int)),.v 16 (.int .i64 (g:Int)),.v 17 (.pointer (some ⟨0,g,none⟩)),.g 18 (.int .u64 ((5 ^ g:Nat):Int)) [.int .u64 ((5 ^ g:Nat):Int)] [.ld ⟨0,g,none⟩ (.int .u64 ((5 ^ g:Nat):Int))],.c (some 19) (cV (.tuple #[.int .u64 (h:Int),.int .u64 (l:Int)])),.v 10 (.tuple #[.int .u64 (h:Int),.int .u64 (l:Int)]),.v 20 (.int .u64 (h:Int)),.v 21 (.int .u64 (l:Int)),.v 4 (.int .u64 (h:Int)),.v 5 (.int .u64 (l:Int))]) (fun p3=>[(0,.int .i64 (j:Int)),(2,.pointer (some ⟨(p1 0).N,0,none⟩)),(4,.int .u64 (h:Int)),(5,.int .u64 (l:Int))]) (by kernel_rfl) (fun _ _=>by kernel_rfl) (fun _=>by kernel_rfl) (fun _=>by kernel_rfl) (fun p3=>?_) (fun p3 W3 T hF hK=>?_)
 ·refine ok_v (by kernel_rfl) ?_
  refine ok_vr (script_iarr (t:=83) (len:=28) (el:=22) (by kernel_rfl) (fun _=>by kernel_rfl) rfl (by omega)) (by kernel_rfl) ?_
  refine ok_g (fun W cx=>⟨⟨(hT.kept cx.fr).2 f (by omega),trivial⟩,rfl⟩) (by kernel_rfl) ?_
  iterate 2 refine ok_v (by kernel_rfl) ?_
  refine ok_vi ((wr64 (x:=(j:Int) - (f:Int)) (by omega) (by omega)).trans (by omega)) (by kernel_rfl) ?_
  refine ok_vr (script_iarr (t:=83) (len:=28) (el:=22) (by kernel_rfl) (fun _=>by kernel_rfl) rfl (by omega)) (by kernel_rfl) ?_
  refine ok_g (fun W cx=>⟨⟨(hT.kept cx.fr).2 g (by omega),trivial⟩,rfl⟩) (by kernel_rfl) ?_
  refine ok_c (fun W cx=>as_v (mul64_any (5 ^ f) (5 ^ g) h l hf5 hg5 hh hl _)) (by kernel_rfl) ?_
  iterate 5 refine ok_v (by kernel_rfl) ?_
  exact ok_nil
 replace hS:=SymF.fb hS hF [0] [⟨(p1 0).N,#[.int .u64 0,.int .u64 0,.int .i64 0],78,true⟩] (by kernel_rfl) (by kernel_rfl)
 replace hG:=hF.gx
 clear hF
 have z3:=hS.fr.size
 refine wp_symQ hS hG hK (fun p4=>[.v 22 (.int .i64 (j:Int)),.v 6 (.int .i64 (j:Int))]) (fun p4=>[(2,.pointer (some ⟨(p1 0).N,0,none⟩)),(4,.int .u64 (h:Int)),(5,.int .u64 (l:Int)),(6,.int .i64 (j:Int))]) (by kernel_rfl) (fun _ _=>by kernel_rfl) (fun _=>by kernel_rfl) (fun _=>by kernel_rfl) (fun p4=>?_) (fun p4 W4 T hF hK=>?_)
 ·iterate 2 refine ok_v (by kernel_rfl) ?_
  exact ok_nil
 replace hS:=SymF.fb hS hF [0] [⟨(p1 0).N,#[.int .u64 0,.int .u64 0,.int .i64 0],78,true⟩] (by kernel_rfl) (by kernel_rfl)
 replace hG:=hF.gx
 clear hF
 have z4:=hS.fr.size
 refine wp_seq ?_
 refine wp_symQ hS hG hK (fun p5=>[.v 23 (.int .u64 (h:Int)),.v 24 (.bool false)]) (fun p5=>[(2,.pointer (some ⟨(p1 0).N,0,none⟩)),(4,.int .u64 (h:Int)),(5,.int .u64 (l:Int)),(6,.int .i64 (j:Int)),(24,.bool false)]) (by kernel_rfl) (fun _ _=>by kernel_rfl) (fun _=>by kernel_rfl) (fun _=>by kernel_rfl) (fun p5=>?_) (fun p5 W5 T hF hK=>?_)
 ·refine ok_v (by kernel_rfl) ?_
  refine ok_vb (beq_false_of_ne (show (h:Int)≠0 by omega)) (by kernel_rfl) ?_
  exact ok_nil
 replace hS:=SymF.fb hS hF [0] [⟨(p1 0).N,#[.int .u64 0,.int .u64 0,.int .i64 0],78,true⟩] (by kernel_rfl) (by kernel_rfl)
 replace hG:=hF.gx
 clear hF
 have z5:=hS.fr.size
 refine wp_cond_false (hK.ev 24 (by kernel_rfl) _ (by kernel_rfl)) ?_
 refine wp_skip ?_
 refine then_n ?_
 refine wp_symQ hS hG hK (fun p6=>[.v 28 (.int .u64 (h:Int)),.c (some 29) (cV (.int .i64 (z:Int))),.v 7 (.int .i64 (z:Int))]) (fun p6=>[(2,.pointer (some ⟨(p1 0).N,0,none⟩)),(4,.int .u64 (h:Int)),(5,.int .u64 (l:Int)),(6,.int .i64 (j:Int)),(7,.int .i64 (z:Int)),(24,.bool false)]) (by kernel_rfl) (fun _ _=>by kernel_rfl) (fun _=>by kernel_rfl) (fun _=>by kernel_rfl) (fun p6=>?_) (fun p6 W6 T hF hK=>?_)
 ·refine ok_v (by kernel_rfl) ?_
  refine ok_c (fun W cx=>as_v (lz_is _ h k z hb64 hlz hkz)) (by kernel_rfl) ?_
  refine ok_v (by kernel_rfl) ?_
  exact ok_nil
 replace hS:=SymF.fb hS hF [0] [⟨(p1 0).N,#[.int .u64 0,.int .u64 0,.int .i64 0],78,true⟩] (by kernel_rfl) (by kernel_rfl)
 replace hG:=hF.gx
 clear hF
 have z6:=hS.fr.size
 refine wp_symQ hS hG hK (fun p7=>[.v 30 (.int .u64 (h:Int)),.v 31 (.int .i64 (z:Int)),.v 32 (.int .u64 (A:Int)),.v 33 (.int .u64 (l:Int)),.v 34 (.int .i64 (z:Int)),.v 35 (.int .i64 ((64 - z:Nat):Int)),.v 36 (.int .u64 (C:Int)),.v 37 (.int .u64 (H:Int)),.v 38 (.int .u64 (l:Int)),.v 39 (.int .i64 (z:Int)),.v 40 (.int .u64 (L:Int)),.v 41 (.int .i64 (j:Int)),.v 42 (.int .i64 (z:Int)),.v 43 (.int .i64 ((j:Int) - (z:Int))),.v 44 (.agg #[.int .u64 (H:Int),.int .u64 (L:Int),.int .i64 ((j:Int) - (z:Int))]),.p 0 0 [.int .u64 (H:Int),.int .u64 (L:Int),.int .i64 ((j:Int) - (z:Int))]]) (fun p7=>[(2,.pointer (some ⟨(p1 0).N,0,none⟩)),(5,.int .u64 (l:Int)),(6,.int .i64 (j:Int)),(24,.bool false)]) (by kernel_rfl) (fun _ _=>by kernel_rfl) (fun _=>by kernel_rfl) (fun _=>by kernel_rfl) (fun p7=>?_) (fun p7 W7 T hF hK=>?_)
 ·iterate 2 refine ok_v (by kernel_rfl) ?_
  refine ok_vi (hA) (by kernel_rfl) ?_
  iterate 2 refine ok_v (by kernel_rfl) ?_
  refine ok_vi ((wr64 (x:=64 - (z:Int)) (by omega) (by omega)).trans (by omega)) (by kernel_rfl) ?_
  refine ok_vi (hC) (by kernel_rfl) ?_
  refine ok_vi (hH) (by kernel_rfl) ?_
  iterate 2 refine ok_v (by kernel_rfl) ?_
  refine ok_vi (hL) (by kernel_rfl) ?_
  iterate 2 refine ok_v (by kernel_rfl) ?_
  refine ok_vi (wr64 (x:=((j:Int) - (z:Int))) (by omega) (by omega)) (by kernel_rfl) ?_
  refine ok_v (by kernel_rfl) ?_
  refine ok_P (by kernel_rfl) (by kernel_rfl) (by kernel_rfl) ?_
  exact ok_nil
 replace hS:=SymF.fb hS hF [0] [⟨(p1 0).N,#[.int .u64 (H:Int),.int .u64 (L:Int),.int .i64 ((j:Int) - (z:Int))],78,true⟩] (by kernel_rfl) (by kernel_rfl)
 replace hG:=hF.gx
 clear hF
 have z7:=hS.fr.size
 refine wp_ret ?_
 exact sym_end hS hK (.agg #[.int .u64 (H:Int),.int .u64 (L:Int),.int .i64 ((j:Int) - (z:Int))]) [(0,0,3)] [.int .u64 (H:Int),.int .u64 (L:Int),.int .i64 ((j:Int) - (z:Int))] (by kernel_rfl) (by kernel_rfl) ⟨rfl,hS.fr⟩
theorem tof_neg (w:World) (k X:Int) (H L:Nat) (hk:k < 0) (hT:Fv w) (HF:Hid (∀ W:World,Fv W→Calls Tryd.prog 60 #[.int .i64 k] W fun e W'=>e = .returned (.agg #[.int .u64 (H:Int),.int .u64 (L:Int),.int .i64 X])∧Below W.heap.size W W')) :
  Calls Tryd.prog 32 #[.int .i64 k] w fun en w'=>en = .returned (.agg #[.int .u64 (H:Int),.int .u64 (L:Int),.int .i64 X])∧Below w.heap.size w w':=by
 refine calls_sym Tryd.func32 rfl (by kernel_rfl) fun T hK=>?_
 replace hK:Kn T _ [(0,.int .i64 k)]:=hK
 have hS:=Fb.begin w
 have hG:GsAt [] w:=trivial
 refine wp_symQ hS hG hK (fun p1=>[.n 2 #[.int .u64 0,.int .u64 0,.int .i64 0] 78]) (fun p1=>[(0,.int .i64 k),(2,.pointer (some ⟨(p1 0).N,0,none⟩))]) (by kernel_rfl) (fun _ _=>by kernel_rfl) (fun _=>by kernel_rfl) (fun _=>by kernel_rfl) (fun p1=>?_) (fun p1 W1 T hF hK=>?_)
 ·refine ok_n (fun _=>by kernel_rfl) ?_
  exact ok_nil
 replace hS:=SymF.fb hS hF [1000] [⟨(p1 0).N,#[.int .u64 0,.int .u64 0,.int .i64 0],78,true⟩] (by kernel_rfl) (by kernel_rfl)
 replace hG:=hF.gx
 clear hF
 have z1:=hS.fr.size
 refine wp_seq ?_
 refine wp_block ?_
 refine wp_symQ hS hG hK (fun p2=>[.v 4 (.int .i64 k),.v 5 (.bool true),.v 3 (.bool true)]) (fun p2=>[(0,.int .i64 k),(2,.pointer (some ⟨(p1 0).N,0,none⟩)),(3,.bool true)]) (by kernel_rfl) (fun _ _=>by kernel_rfl) (fun _=>by kernel_rfl) (fun _=>by kernel_rfl) (fun p2=>?_) (fun p2 W2 T hF hK=>?_)
 ·refine ok_v (by kernel_rfl) ?_
  refine ok_vb (decide_eq_true (show k < 0 by omega)) (by kernel_rfl) ?_
  refine ok_v (by kernel_rfl) ?_
  exact ok_nil
 replace hS:=SymF.fb hS hF [0] [⟨(p1 0).N,#[.int .u64 0,.int .u64 0,.int .i64 0],78,true⟩] (by kernel_rfl) (by kernel_rfl)
 replace hG:=hF.gx
 clear hF
 have z2:=hS.fr.size
 refine wp_cond_true (hK.ev 3 (by kernel_rfl) _ (by kernel_rfl)) ?_
 refine wp_symQ hS hG hK (fun p3=>[.v 6 (.int .i64 k),.c (some 7) (cV (.agg #[.int .u64 (H:Int),.int .u64 (L:Int),.int .i64 X])),.p 0 0 [.int .u64 (H:Int),.int .u64 (L:Int),.int .i64 X]]) (fun p3=>[(0,.int .i64 k),(2,.pointer (some ⟨(p1 0).N,0,none⟩)),(3,.bool true)]) (by kernel_rfl) (fun _ _=>by kernel_rfl) (fun _=>by kernel_rfl) (fun _=>by kernel_rfl) (fun p3=>?_) (fun p3 W3 T hF hK=>?_)
 ·refine ok_v (by kernel_rfl) ?_
  refine ok_c (fun W cx=>as_v (unhide HF _ (hT.kept cx.fr))) (by kernel_rfl) ?_
  refine ok_P (by kernel_rfl) (by kernel_rfl) (by kernel_rfl) ?_
  exact ok_nil
 replace hS:=SymF.fb hS hF [0] [⟨(p1 0).N,#[.int .u64 (H:Int),.int .u64 (L:Int),.int .i64 X],78,true⟩] (by kernel_rfl) (by kernel_rfl)
 replace hG:=hF.gx
 clear hF
 have z3:=hS.fr.size
 refine wp_ret ?_
 refine inb_r ?_
 refine then_r ?_
 exact sym_end hS hK (.agg #[.int .u64 (H:Int),.int .u64 (L:Int),.int .i64 X]) [(0,0,3)] [.int .u64 (H:Int),.int .u64 (L:Int),.int .i64 X] (by kernel_rfl) (by kernel_rfl) ⟨rfl,hS.fr⟩
theorem tof_mid (w:World) (k X:Int) (H L:Nat) (hk:0≤k∧k≤54) (hT:Fv w) (HF:Hid (∀ W:World,Fv W→Calls Tryd.prog 61 #[.int .i64 k] W fun e W'=>e = .returned (.agg #[.int .u64 (H:Int),.int .u64 (L:Int),.int .i64 X])∧Below W.heap.size W W')) :
  Calls Tryd.prog 32 #[.int .i64 k] w fun en w'=>en = .returned (.agg #[.int .u64 (H:Int),.int .u64 (L:Int),.int .i64 X])∧Below w.heap.size w w':=by
 refine calls_sym Tryd.func32 rfl (by kernel_rfl) fun T hK=>?_
 replace hK:Kn T _ [(0,.int .i64 k)]:=hK
 have hS:=Fb.begin w
 have hG:GsAt [] w:=trivial
 refine wp_symQ hS hG hK (fun p1=>[.n 2 #[.int .u64 0,.int .u64 0,.int .i64 0] 78]) (fun p1=>[(0,.int .i64 k),(2,.pointer (some ⟨(p1 0).N,0,none⟩))]) (by kernel_rfl) (fun _ _=>by kernel_rfl) (fun _=>by kernel_rfl) (fun _=>by kernel_rfl) (fun p1=>?_) (fun p1 W1 T hF hK=>?_)
 ·refine ok_n (fun _=>by kernel_rfl) ?_
  exact ok_nil
 replace hS:=SymF.fb hS hF [1000] [⟨(p1 0).N,#[.int .u64 0,.int .u64 0,.int .i64 0],78,true⟩] (by kernel_rfl) (by kernel_rfl)
 replace hG:=hF.gx
 clear hF
 have z1:=hS.fr.size
 refine wp_seq ?_
 refine wp_block ?_
 refine wp_symQ hS hG hK (fun p2=>[.v 4 (.int .i64 k),.v 5 (.bool false),.v 3 (.bool false)]) (fun p2=>[(0,.int .i64 k),(2,.pointer (some ⟨(p1 0).N,0,none⟩)),(3,.bool false)]) (by kernel_rfl) (fun _ _=>by kernel_rfl) (fun _=>by kernel_rfl) (fun _=>by kernel_rfl) (fun p2=>?_) (fun p2 W2 T hF hK=>?_)
 ·refine ok_v (by kernel_rfl) ?_
  refine ok_vb (decide_eq_false (show ¬ k < 0 by omega)) (by kernel_rfl) ?_
  refine ok_v (by kernel_rfl) ?_
  exact ok_nil
 replace hS:=SymF.fb hS hF [0] [⟨(p1 0).N,#[.int .u64 0,.int .u64 0,.int .i64 0],78,true⟩] (by kernel_rfl) (by kernel_rfl)
 replace hG:=hF.gx
 clear hF
 have z2:=hS.fr.size
 refine wp_cond_false (hK.ev 3 (by kernel_rfl) _ (by kernel_rfl)) ?_
 refine wp_symQ hS hG hK (fun p3=>[.v 9 (.int .i64 k),.v 10 (.bool true),.v 8 (.bool true)]) (fun p3=>[(0,.int .i64 k),(2,.pointer (some ⟨(p1 0).N,0,none⟩)),(3,.bool false),(8,.bool true)]) (by kernel_rfl) (fun _ _=>by kernel_rfl) (fun _=>by kernel_rfl) (fun _=>by kernel_rfl) (fun p3=>?_) (fun p3 W3 T hF hK=>?_)
 ·refine ok_v (by kernel_rfl) ?_
  refine ok_vb (decide_eq_true (show k≤54 by omega)) (by kernel_rfl) ?_
  refine ok_v (by kernel_rfl) ?_
  exact ok_nil
 replace hS:=SymF.fb hS hF [0] [⟨(p1 0).N,#[.int .u64 0,.int .u64 0,.int .i64 0],78,true⟩] (by kernel_rfl) (by kernel_rfl)
 replace hG:=hF.gx
 clear hF
 have z3:=hS.fr.size
 refine wp_cond_true (hK.ev 8 (by kernel_rfl) _ (by kernel_rfl)) ?_
 refine wp_symQ hS hG hK (fun p4=>[.v 11 (.int .i64 k),.c (some 12) (cV (.agg #[.int .u64 (H:Int),.int .u64 (L:Int),.int .i64 X])),.p 0 0 [.int .u64 (H:Int),.int .u64 (L:Int),.int .i64 X]]) (fun p4=>[(0,.int .i64 k),(2,.pointer (some ⟨(p1 0).N,0,none⟩)),(3,.bool false),(8,.bool true)]) (by kernel_rfl) (fun _ _=>by kernel_rfl) (fun _=>by kernel_rfl) (fun _=>by kernel_rfl) (fun p4=>?_) (fun p4 W4 T hF hK=>?_)
 ·refine ok_v (by kernel_rfl) ?_
  refine ok_c (fun W cx=>as_v (unhide HF _ (hT.kept cx.fr))) (by kernel_rfl) ?_
  refine ok_P (by kernel_rfl) (by kernel_rfl) (by kernel_rfl) ?_
  exact ok_nil
 replace hS:=SymF.fb hS hF [0] [⟨(p1 0).N,#[.int .u64 (H:Int),.int .u64 (L:Int),.int .i64 X],78,true⟩] (by kernel_rfl) (by kernel_rfl)
 replace hG:=hF.gx
 clear hF
 have z4:=hS.fr.size
 refine wp_ret ?_
 refine inb_r ?_
 refine then_r ?_
 exact sym_end hS hK (.agg #[.int .u64 (H:Int),.int .u64 (L:Int),.int .i64 X]) [(0,0,3)] [.int .u64 (H:Int),.int .u64 (L:Int),.int .i64 X] (by kernel_rfl) (by kernel_rfl) ⟨rfl,hS.fr⟩
theorem tof_high (w:World) (k X:Int) (H L:Nat) (hk:54 < k) (hT:Fv w) (HF:Hid (∀ W:World,Fv W→Calls Tryd.prog 62 #[.int .i64 k] W fun e W'=>e = .returned (.agg #[.int .u64 (H:Int),.int .u64 (L:Int),.int .i64 X])∧Below W.heap.size W W')) :
  Calls Tryd.prog 32 #[.int .i64 k] w fun en w'=>en = .returned (.agg #[.int .u64 (H:Int),.int .u64 (L:Int),.int .i64 X])∧Below w.heap.size w w':=by
 refine calls_sym Tryd.func32 rfl (by kernel_rfl) fun T hK=>?_
 replace hK:Kn T _ [(0,.int .i64 k)]:=hK
 have hS:=Fb.begin w
 have hG:GsAt [] w:=trivial
 refine wp_symQ hS hG hK (fun p1=>[.n 2 #[.int .u64 0,.int .u64 0,.int .i64 0] 78]) (fun p1=>[(0,.int .i64 k),(2,.pointer (some ⟨(p1 0).N,0,none⟩))]) (by kernel_rfl) (fun _ _=>by kernel_rfl) (fun _=>by kernel_rfl) (fun _=>by kernel_rfl) (fun p1=>?_) (fun p1 W1 T hF hK=>?_)
 ·refine ok_n (fun _=>by kernel_rfl) ?_
  exact ok_nil
 replace hS:=SymF.fb hS hF [1000] [⟨(p1 0).N,#[.int .u64 0,.int .u64 0,.int .i64 0],78,true⟩] (by kernel_rfl) (by kernel_rfl)
 replace hG:=hF.gx
 clear hF
 have z1:=hS.fr.size
 refine wp_seq ?_
 refine wp_block ?_
 refine wp_symQ hS hG hK (fun p2=>[.v 4 (.int .i64 k),.v 5 (.bool false),.v 3 (.bool false)]) (fun p2=>[(0,.int .i64 k),(2,.pointer (some ⟨(p1 0).N,0,none⟩)),(3,.bool false)]) (by kernel_rfl) (fun _ _=>by kernel_rfl) (fun _=>by kernel_rfl) (fun _=>by kernel_rfl) (fun p2=>?_) (fun p2 W2 T hF hK=>?_)
 ·refine ok_v (by kernel_rfl) ?_
  refine ok_vb (decide_eq_false (show ¬ k < 0 by omega)) (by kernel_rfl) ?_
  refine ok_v (by kernel_rfl) ?_
  exact ok_nil
 replace hS:=SymF.fb hS hF [0] [⟨(p1 0).N,#[.int .u64 0,.int .u64 0,.int .i64 0],78,true⟩] (by kernel_rfl) (by kernel_rfl)
 replace hG:=hF.gx
 clear hF
 have z2:=hS.fr.size
 refine wp_cond_false (hK.ev 3 (by kernel_rfl) _ (by kernel_rfl)) ?_
 refine wp_symQ hS hG hK (fun p3=>[.v 9 (.int .i64 k),.v 10 (.bool false),.v 8 (.bool false)]) (fun p3=>[(0,.int .i64 k),(2,.pointer (some ⟨(p1 0).N,0,none⟩)),(3,.bool false),(8,.bool false)]) (by kernel_rfl) (fun _ _=>by kernel_rfl) (fun _=>by kernel_rfl) (fun _=>by kernel_rfl) (fun p3=>?_) (fun p3 W3 T hF hK=>?_)
 ·refine ok_v (by kernel_rfl) ?_
  refine ok_vb (decide_eq_false (show ¬ k≤54 by omega)) (by kernel_rfl) ?_
  refine ok_v (by kernel_rfl) ?_
  exact ok_nil
 replace hS:=SymF.fb hS hF [0] [⟨(p1 0).N,#[.int .u64 0,.int .u64 0,.int .i64 0],78,true⟩] (by kernel_rfl) (by kernel_rfl)
 replace hG:=hF.gx
 clear hF
 have z3:=hS.fr.size
 refine wp_cond_false (hK.ev 8 (by kernel_rfl) _ (by kernel_rfl)) ?_
 refine wp_skip ?_
 refine inb_n ?_
 refine then_n ?_
 refine wp_symQ hS hG hK (fun p4=>[.v 13 (.int .i64 k),.c (some 14) (cV (.agg #[.int .u64 (H:Int),.int .u64 (L:Int),.int .i64 X])),.p 0 0 [.int .u64 (H:Int),.int .u64 (L:Int),.int .i64 X]]) (fun p4=>[(0,.int .i64 k),(2,.pointer (some ⟨(p1 0).N,0,none⟩)),(3,.bool false),(8,.bool false)]) (by kernel_rfl) (fun _ _=>by kernel_rfl) (fun _=>by kernel_rfl) (fun _=>by kernel_rfl) (fun p4=>?_) (fun p4 W4 T hF hK=>?_)
 ·refine ok_v (by kernel_rfl) ?_
  refine ok_c (fun W cx=>as_v (unhide HF _ (hT.kept cx.fr))) (by kernel_rfl) ?_
  refine ok_P (by kernel_rfl) (by kernel_rfl) (by kernel_rfl) ?_
  exact ok_nil
 replace hS:=SymF.fb hS hF [0] [⟨(p1 0).N,#[.int .u64 (H:Int),.int .u64 (L:Int),.int .i64 X],78,true⟩] (by kernel_rfl) (by kernel_rfl)
 replace hG:=hF.gx
 clear hF
 have z4:=hS.fr.size
 refine wp_ret ?_
 exact sym_end hS hK (.agg #[.int .u64 (H:Int),.int .u64 (L:Int),.int .i64 X]) [(0,0,3)] [.int .u64 (H:Int),.int .u64 (L:Int),.int .i64 X] (by kernel_rfl) (by kernel_rfl) ⟨rfl,hS.fr⟩
theorem pip_t (w:World) (k:Int) (hk:-400≤k∧k≤400) :
  Calls Tryd.prog 20 #[.int .i64 k] w fun en w'=>en = .returned (.bool true)∧Below w.heap.size w w':=by
 refine calls_sym Tryd.func20 rfl (by kernel_rfl) fun T hK=>?_
 replace hK:Kn T _ [(0,.int .i64 k)]:=hK
 have hS:=Fb.begin w
 have hG:GsAt [] w:=trivial
 refine wp_symQ hS hG hK (fun p1=>[.v 2 (.bool false)]) (fun p1=>[(0,.int .i64 k),(2,.bool false)]) (by kernel_rfl) (fun _ _=>by kernel_rfl) (fun _=>by kernel_rfl) (fun _=>by kernel_rfl) (fun p1=>?_) (fun p1 W1 T hF hK=>?_)
 ·refine ok_v (by kernel_rfl) ?_
  exact ok_nil
 replace hS:=SymF.fb hS hF [] [] (by kernel_rfl) (by kernel_rfl)
 replace hG:=hF.gx
 clear hF
 have z1:=hS.fr.size
 refine wp_symQ hS hG hK (fun p2=>[.v 3 (.int .i64 k),.v 4 (.bool true),.v 5 (.bool true),.v 6 (.int .i64 k),.v 7 (.bool true),.v 8 (.bool true),.v 2 (.bool true)]) (fun p2=>[(2,.bool true)]) (by kernel_rfl) (fun _ _=>by kernel_rfl) (fun _=>by kernel_rfl) (fun _=>by kernel_rfl) (fun p2=>?_) (fun p2 W2 T hF hK=>?_)
 ·refine ok_v (by kernel_rfl) ?_
  refine ok_vb (decide_eq_true (show (-400)≤k by omega)) (by kernel_rfl) ?_
  iterate 2 refine ok_v (by kernel_rfl) ?_
  refine ok_vb (decide_eq_true (show k≤400 by omega)) (by kernel_rfl) ?_
  iterate 2 refine ok_v (by kernel_rfl) ?_
  exact ok_nil
 replace hS:=SymF.fb hS hF [] [] (by kernel_rfl) (by kernel_rfl)
 replace hG:=hF.gx
 clear hF
 have z2:=hS.fr.size
 refine wp_ret ?_
 exact sym_end hS hK (.bool true) [] [] (by kernel_rfl) (by kernel_rfl) ⟨rfl,hS.fr⟩
theorem pip_f1 (w:World) (k:Int) (hk:k < -400) :
  Calls Tryd.prog 20 #[.int .i64 k] w fun en w'=>en = .returned (.bool false)∧Below w.heap.size w w':=by
 refine calls_sym Tryd.func20 rfl (by kernel_rfl) fun T hK=>?_
 replace hK:Kn T _ [(0,.int .i64 k)]:=hK
 have hS:=Fb.begin w
 have hG:GsAt [] w:=trivial
 refine wp_symQ hS hG hK (fun p1=>[.v 2 (.bool false)]) (fun p1=>[(0,.int .i64 k),(2,.bool false)]) (by kernel_rfl) (fun _ _=>by kernel_rfl) (fun _=>by kernel_rfl) (fun _=>by kernel_rfl) (fun p1=>?_) (fun p1 W1 T hF hK=>?_)
 ·refine ok_v (by kernel_rfl) ?_
  exact ok_nil
 replace hS:=SymF.fb hS hF [] [] (by kernel_rfl) (by kernel_rfl)
 replace hG:=hF.gx
 clear hF
 have z1:=hS.fr.size
 refine wp_symQ hS hG hK (fun p2=>[.v 3 (.int .i64 k),.v 4 (.bool false),.v 5 (.bool false),.k (some 6),.k (some 7),.v 8 (.bool false),.v 2 (.bool false)]) (fun p2=>[(2,.bool false)]) (by kernel_rfl) (fun _ _=>by kernel_rfl) (fun _=>by kernel_rfl) (fun _=>by kernel_rfl) (fun p2=>?_) (fun p2 W2 T hF hK=>?_)
 ·refine ok_v (by kernel_rfl) ?_
  refine ok_vb (decide_eq_false (show ¬ (-400)≤k by omega)) (by kernel_rfl) ?_
  refine ok_v (by kernel_rfl) ?_
  iterate 2 refine ok_K (by kernel_rfl) ?_
  iterate 2 refine ok_v (by kernel_rfl) ?_
  exact ok_nil
 replace hS:=SymF.fb hS hF [] [] (by kernel_rfl) (by kernel_rfl)
 replace hG:=hF.gx
 clear hF
 have z2:=hS.fr.size
 refine wp_ret ?_
 exact sym_end hS hK (.bool false) [] [] (by kernel_rfl) (by kernel_rfl) ⟨rfl,hS.fr⟩
theorem pip_f2 (w:World) (k:Int) (hk:400 < k) :
  Calls Tryd.prog 20 #[.int .i64 k] w fun en w'=>en = .returned (.bool false)∧Below w.heap.size w w':=by
 refine calls_sym Tryd.func20 rfl (by kernel_rfl) fun T hK=>?_
 replace hK:Kn T _ [(0,.int .i64 k)]:=hK
 have hS:=Fb.begin w
 have hG:GsAt [] w:=trivial
 refine wp_symQ hS hG hK (fun p1=>[.v 2 (.bool false)]) (fun p1=>[(0,.int .i64 k),(2,.bool false)]) (by kernel_rfl) (fun _ _=>by kernel_rfl) (fun _=>by kernel_rfl) (fun _=>by kernel_rfl) (fun p1=>?_) (fun p1 W1 T hF hK=>?_)
 ·refine ok_v (by kernel_rfl) ?_
  exact ok_nil
 replace hS:=SymF.fb hS hF [] [] (by kernel_rfl) (by kernel_rfl)
 replace hG:=hF.gx
 clear hF
 have z1:=hS.fr.size
 refine wp_symQ hS hG hK (fun p2=>[.v 3 (.int .i64 k),.v 4 (.bool true),.v 5 (.bool true),.v 6 (.int .i64 k),.v 7 (.bool false),.v 8 (.bool false),.v 2 (.bool false)]) (fun p2=>[(2,.bool false)]) (by kernel_rfl) (fun _ _=>by kernel_rfl) (fun _=>by kernel_rfl) (fun _=>by kernel_rfl) (fun p2=>?_) (fun p2 W2 T hF hK=>?_)
 ·refine ok_v (by kernel_rfl) ?_
  refine ok_vb (decide_eq_true (show (-400)≤k by omega)) (by kernel_rfl) ?_
  iterate 2 refine ok_v (by kernel_rfl) ?_
  refine ok_vb (decide_eq_false (show ¬ k≤400 by omega)) (by kernel_rfl) ?_
  iterate 2 refine ok_v (by kernel_rfl) ?_
  exact ok_nil
 replace hS:=SymF.fb hS hF [] [] (by kernel_rfl) (by kernel_rfl)
 replace hG:=hF.gx
 clear hF
 have z2:=hS.fr.size
 refine wp_ret ?_
 exact sym_end hS hK (.bool false) [] [] (by kernel_rfl) (by kernel_rfl) ⟨rfl,hS.fr⟩
theorem pip_f (w:World) (k:Int) (hk:k < -400∨400 < k):Calls Tryd.prog 20 #[.int .i64 k] w fun en w'=>en = .returned (.bool false)∧Below w.heap.size w w':=hk.elim (pip_f1 w k) (pip_f2 w k)
theorem piw_t (w:World) (k:Int) (hk:0≤k∧k≤55) :
  Calls Tryd.prog 21 #[.int .i64 k] w fun en w'=>en = .returned (.bool true)∧Below w.heap.size w w':=by
 refine calls_sym Tryd.func21 rfl (by kernel_rfl) fun T hK=>?_
 replace hK:Kn T _ [(0,.int .i64 k)]:=hK
 have hS:=Fb.begin w
 have hG:GsAt [] w:=trivial
 refine wp_symQ hS hG hK (fun p1=>[.v 2 (.bool false)]) (fun p1=>[(0,.int .i64 k),(2,.bool false)]) (by kernel_rfl) (fun _ _=>by kernel_rfl) (fun _=>by kernel_rfl) (fun _=>by kernel_rfl) (fun p1=>?_) (fun p1 W1 T hF hK=>?_)
 ·refine ok_v (by kernel_rfl) ?_
  exact ok_nil
 replace hS:=SymF.fb hS hF [] [] (by kernel_rfl) (by kernel_rfl)
 replace hG:=hF.gx
 clear hF
 have z1:=hS.fr.size
 refine wp_symQ hS hG hK (fun p2=>[.v 3 (.int .i64 k),.v 4 (.bool true),.v 5 (.bool true),.v 6 (.int .i64 k),.v 7 (.bool true),.v 8 (.bool true),.v 2 (.bool true)]) (fun p2=>[(2,.bool true)]) (by kernel_rfl) (fun _ _=>by kernel_rfl) (fun _=>by kernel_rfl) (fun _=>by kernel_rfl) (fun p2=>?_) (fun p2 W2 T hF hK=>?_)
 ·refine ok_v (by kernel_rfl) ?_
  refine ok_vb (decide_eq_true (show 0≤k by omega)) (by kernel_rfl) ?_
  iterate 2 refine ok_v (by kernel_rfl) ?_
  refine ok_vb (decide_eq_true (show k≤55 by omega)) (by kernel_rfl) ?_
  iterate 2 refine ok_v (by kernel_rfl) ?_
  exact ok_nil
 replace hS:=SymF.fb hS hF [] [] (by kernel_rfl) (by kernel_rfl)
 replace hG:=hF.gx
 clear hF
 have z2:=hS.fr.size
 refine wp_ret ?_
 exact sym_end hS hK (.bool true) [] [] (by kernel_rfl) (by kernel_rfl) ⟨rfl,hS.fr⟩
theorem piw_f1 (w:World) (k:Int) (hk:k < 0) :
  Calls Tryd.prog 21 #[.int .i64 k] w fun en w'=>en = .returned (.bool false)∧Below w.heap.size w w':=by
 refine calls_sym Tryd.func21 rfl (by kernel_rfl) fun T hK=>?_
 replace hK:Kn T _ [(0,.int .i64 k)]:=hK
 have hS:=Fb.begin w
 have hG:GsAt [] w:=trivial
 refine wp_symQ hS hG hK (fun p1=>[.v 2 (.bool false)]) (fun p1=>[(0,.int .i64 k),(2,.bool false)]) (by kernel_rfl) (fun _ _=>by kernel_rfl) (fun _=>by kernel_rfl) (fun _=>by kernel_rfl) (fun p1=>?_) (fun p1 W1 T hF hK=>?_)
 ·refine ok_v (by kernel_rfl) ?_
  exact ok_nil
 replace hS:=SymF.fb hS hF [] [] (by kernel_rfl) (by kernel_rfl)
 replace hG:=hF.gx
 clear hF
 have z1:=hS.fr.size
 refine wp_symQ hS hG hK (fun p2=>[.v 3 (.int .i64 k),.v 4 (.bool false),.v 5 (.bool false),.k (some 6),.k (some 7),.v 8 (.bool false),.v 2 (.bool false)]) (fun p2=>[(2,.bool false)]) (by kernel_rfl) (fun _ _=>by kernel_rfl) (fun _=>by kernel_rfl) (fun _=>by kernel_rfl) (fun p2=>?_) (fun p2 W2 T hF hK=>?_)
 ·refine ok_v (by kernel_rfl) ?_
  refine ok_vb (decide_eq_false (show ¬ 0≤k by omega)) (by kernel_rfl) ?_
  refine ok_v (by kernel_rfl) ?_
  iterate 2 refine ok_K (by kernel_rfl) ?_
  iterate 2 refine ok_v (by kernel_rfl) ?_
  exact ok_nil
 replace hS:=SymF.fb hS hF [] [] (by kernel_rfl) (by kernel_rfl)
 replace hG:=hF.gx
 clear hF
 have z2:=hS.fr.size
 refine wp_ret ?_
 exact sym_end hS hK (.bool false) [] [] (by kernel_rfl) (by kernel_rfl) ⟨rfl,hS.fr⟩
theorem piw_f2 (w:World) (k:Int) (hk:55 < k) :
  Calls Tryd.prog 21 #[.int .i64 k] w fun en w'=>en = .returned (.bool false)∧Below w.heap.size w w':=by
 refine calls_sym Tryd.func21 rfl (by kernel_rfl) fun T hK=>?_
 replace hK:Kn T _ [(0,.int .i64 k)]:=hK
 have hS:=Fb.begin w
 have hG:GsAt [] w:=trivial
 refine wp_symQ hS hG hK (fun p1=>[.v 2 (.bool false)]) (fun p1=>[(0,.int .i64 k),(2,.bool false)]) (by kernel_rfl) (fun _ _=>by kernel_rfl) (fun _=>by kernel_rfl) (fun _=>by kernel_rfl) (fun p1=>?_) (fun p1 W1 T hF hK=>?_)
 ·refine ok_v (by kernel_rfl) ?_
  exact ok_nil
 replace hS:=SymF.fb hS hF [] [] (by kernel_rfl) (by kernel_rfl)
 replace hG:=hF.gx
 clear hF
 have z1:=hS.fr.size
 refine wp_symQ hS hG hK (fun p2=>[.v 3 (.int .i64 k),.v 4 (.bool true),.v 5 (.bool true),.v 6 (.int .i64 k),.v 7 (.bool false),.v 8 (.bool false),.v 2 (.bool false)]) (fun p2=>[(2,.bool false)]) (by kernel_rfl) (fun _ _=>by kernel_rfl) (fun _=>by kernel_rfl) (fun _=>by kernel_rfl) (fun p2=>?_) (fun p2 W2 T hF hK=>?_)
 ·refine ok_v (by kernel_rfl) ?_
  refine ok_vb (decide_eq_true (show 0≤k by omega)) (by kernel_rfl) ?_
  iterate 2 refine ok_v (by kernel_rfl) ?_
  refine ok_vb (decide_eq_false (show ¬ k≤55 by omega)) (by kernel_rfl) ?_
  iterate 2 refine ok_v (by kernel_rfl) ?_
  exact ok_nil
 replace hS:=SymF.fb hS hF [] [] (by kernel_rfl) (by kernel_rfl)
 replace hG:=hF.gx
 clear hF
 have z2:=hS.fr.size
 refine wp_ret ?_
 exact sym_end hS hK (.bool false) [] [] (by kernel_rfl) (by kernel_rfl) ⟨rfl,hS.fr⟩
theorem pTen_far (w:World) (k:Int)  (hk:k < -400∨400 < k) :
  Calls Tryd.prog 11 #[.int .i64 k] w fun en w'=>en = .returned (.tuple #[.int .u64 0,.int .u64 0,.int .i64 0,.int .i64 130])∧Below w.heap.size w w':=by
 refine calls_sym Tryd.func11 rfl (by kernel_rfl) fun T hK=>?_
 replace hK:Kn T _ [(0,.int .i64 k)]:=hK
 have hS:=Fb.begin w
 have hG:GsAt [] w:=trivial
 refine wp_symQ hS hG hK (fun p1=>[.v 2 (.int .u64 0),.v 3 (.int .u64 0),.v 4 (.int .i64 0),.v 5 (.int .i64 0)]) (fun p1=>[(0,.int .i64 k),(2,.int .u64 0),(3,.int .u64 0),(4,.int .i64 0),(5,.int .i64 0)]) (by kernel_rfl) (fun _ _=>by kernel_rfl) (fun _=>by kernel_rfl) (fun _=>by kernel_rfl) (fun p1=>?_) (fun p1 W1 T hF hK=>?_)
 ·iterate 4 refine ok_v (by kernel_rfl) ?_
  exact ok_nil
 replace hS:=SymF.fb hS hF [] [] (by kernel_rfl) (by kernel_rfl)
 replace hG:=hF.gx
 clear hF
 have z1:=hS.fr.size
 refine wp_seq ?_
 refine wp_symQ hS hG hK (fun p2=>[.v 7 (.int .i64 k),.c (some 8) (cV (.bool false)),.v 9 (.bool true)]) (fun p2=>[(0,.int .i64 k),(2,.int .u64 0),(3,.int .u64 0),(4,.int .i64 0),(5,.int .i64 0),(9,.bool true)]) (by kernel_rfl) (fun _ _=>by kernel_rfl) (fun _=>by kernel_rfl) (fun _=>by kernel_rfl) (fun p2=>?_) (fun p2 W2 T hF hK=>?_)
 ·refine ok_v (by kernel_rfl) ?_
  refine ok_c (fun W cx=>as_v (pip_f _ _ hk)) (by kernel_rfl) ?_
  refine ok_v (by kernel_rfl) ?_
  exact ok_nil
 replace hS:=SymF.fb hS hF [] [] (by kernel_rfl) (by kernel_rfl)
 replace hG:=hF.gx
 clear hF
 have z2:=hS.fr.size
 refine wp_cond_true (hK.ev 9 (by kernel_rfl) _ (by kernel_rfl)) ?_
 refine wp_symQ hS hG hK (fun p3=>[.v 2 (.int .u64 0),.v 3 (.int .u64 0),.v 4 (.int .i64 0),.v 5 (.int .i64 130)]) (fun p3=>[(0,.int .i64 k),(2,.int .u64 0),(3,.int .u64 0),(4,.int .i64 0),(5,.int .i64 130),(9,.bool true)]) (by kernel_rfl) (fun _ _=>by kernel_rfl) (fun _=>by kernel_rfl) (fun _=>by kernel_rfl) (fun p3=>?_) (fun p3 W3 T hF hK=>?_)
 ·iterate 4 refine ok_v (by kernel_rfl) ?_
  exact ok_nil
 replace hS:=SymF.fb hS hF [] [] (by kernel_rfl) (by kernel_rfl)
 replace hG:=hF.gx
 clear hF
 have z3:=hS.fr.size
 refine wp_ret ?_
 refine then_r ?_
 exact sym_end hS hK (.tuple #[.int .u64 0,.int .u64 0,.int .i64 0,.int .i64 130]) [] [] (by kernel_rfl) (by kernel_rfl) ⟨rfl,hS.fr⟩
theorem pWhole_far (w:World) (k:Int)  (hk:k < -400∨400 < k) :
  Calls Tryd.prog 6 #[.int .i64 k] w fun en w'=>en = .returned (.tuple #[.bool false,.int .i64 130])∧Below w.heap.size w w':=by
 refine calls_sym Tryd.func6 rfl (by kernel_rfl) fun T hK=>?_
 replace hK:Kn T _ [(0,.int .i64 k)]:=hK
 have hS:=Fb.begin w
 have hG:GsAt [] w:=trivial
 refine wp_symQ hS hG hK (fun p1=>[.v 2 (.bool false),.v 3 (.int .i64 0)]) (fun p1=>[(0,.int .i64 k),(2,.bool false),(3,.int .i64 0)]) (by kernel_rfl) (fun _ _=>by kernel_rfl) (fun _=>by kernel_rfl) (fun _=>by kernel_rfl) (fun p1=>?_) (fun p1 W1 T hF hK=>?_)
 ·iterate 2 refine ok_v (by kernel_rfl) ?_
  exact ok_nil
 replace hS:=SymF.fb hS hF [] [] (by kernel_rfl) (by kernel_rfl)
 replace hG:=hF.gx
 clear hF
 have z1:=hS.fr.size
 refine wp_seq ?_
 refine wp_symQ hS hG hK (fun p2=>[.v 4 (.int .i64 k),.c (some 5) (cV (.bool false)),.v 6 (.bool true)]) (fun p2=>[(0,.int .i64 k),(2,.bool false),(3,.int .i64 0),(6,.bool true)]) (by kernel_rfl) (fun _ _=>by kernel_rfl) (fun _=>by kernel_rfl) (fun _=>by kernel_rfl) (fun p2=>?_) (fun p2 W2 T hF hK=>?_)
 ·refine ok_v (by kernel_rfl) ?_
  refine ok_c (fun W cx=>as_v (pip_f _ _ hk)) (by kernel_rfl) ?_
  refine ok_v (by kernel_rfl) ?_
  exact ok_nil
 replace hS:=SymF.fb hS hF [] [] (by kernel_rfl) (by kernel_rfl)
 replace hG:=hF.gx
 clear hF
 have z2:=hS.fr.size
 refine wp_cond_true (hK.ev 6 (by kernel_rfl) _ (by kernel_rfl)) ?_
 refine wp_symQ hS hG hK (fun p3=>[.v 2 (.bool false),.v 3 (.int .i64 130)]) (fun p3=>[(0,.int .i64 k),(2,.bool false),(3,.int .i64 130),(6,.bool true)]) (by kernel_rfl) (fun _ _=>by kernel_rfl) (fun _=>by kernel_rfl) (fun _=>by kernel_rfl) (fun p3=>?_) (fun p3 W3 T hF hK=>?_)
 ·iterate 2 refine ok_v (by kernel_rfl) ?_
  exact ok_nil
 replace hS:=SymF.fb hS hF [] [] (by kernel_rfl) (by kernel_rfl)
 replace hG:=hF.gx
 clear hF
 have z3:=hS.fr.size
 refine wp_ret ?_
 refine then_r ?_
 exact sym_end hS hK (.tuple #[.bool false,.int .i64 130]) [] [] (by kernel_rfl) (by kernel_rfl) ⟨rfl,hS.fr⟩
theorem pTen_in (w:World) (k:Int) (X:Int) (H L:Nat) (hk:-400≤k∧k≤400) (hT:Fv w) (HF:Hid (∀ W:World,Fv W→Calls Tryd.prog 32 #[.int .i64 k] W fun e W'=>e = .returned (.agg #[.int .u64 (H:Int),.int .u64 (L:Int),.int .i64 X])∧Below W.heap.size W W')) :
  Calls Tryd.prog 11 #[.int .i64 k] w fun en w'=>en = .returned (.tuple #[.int .u64 (H:Int),.int .u64 (L:Int),.int .i64 X,.int .i64 0])∧Below w.heap.size w w':=by
 refine calls_sym Tryd.func11 rfl (by kernel_rfl) fun T hK=>?_
 replace hK:Kn T _ [(0,.int .i64 k)]:=hK
 have hS:=Fb.begin w
 have hG:GsAt [] w:=trivial
 refine wp_symQ hS hG hK (fun p1=>[.v 2 (.int .u64 0),.v 3 (.int .u64 0),.v 4 (.int .i64 0),.v 5 (.int .i64 0)]) (fun p1=>[(0,.int .i64 k),(2,.int .u64 0),(3,.int .u64 0),(4,.int .i64 0),(5,.int .i64 0)]) (by kernel_rfl) (fun _ _=>by kernel_rfl) (fun _=>by kernel_rfl) (fun _=>by kernel_rfl) (fun p1=>?_) (fun p1 W1 T hF hK=>?_)
 ·iterate 4 refine ok_v (by kernel_rfl) ?_
  exact ok_nil
 replace hS:=SymF.fb hS hF [] [] (by kernel_rfl) (by kernel_rfl)
 replace hG:=hF.gx
 clear hF
 have z1:=hS.fr.size
 refine wp_seq ?_
 refine wp_symQ hS hG hK (fun p2=>[.v 7 (.int .i64 k),.c (some 8) (cV (.bool true)),.v 9 (.bool false)]) (fun p2=>[(0,.int .i64 k),(2,.int .u64 0),(3,.int .u64 0),(4,.int .i64 0),(5,.int .i64 0),(9,.bool false)]) (by kernel_rfl) (fun _ _=>by kernel_rfl) (fun _=>by kernel_rfl) (fun _=>by kernel_rfl) (fun p2=>?_) (fun p2 W2 T hF hK=>?_)
 ·refine ok_v (by kernel_rfl) ?_
  refine ok_c (fun W cx=>as_v (pip_t _ _ hk)) (by kernel_rfl) ?_
  refine ok_v (by kernel_rfl) ?_
  exact ok_nil
 replace hS:=SymF.fb hS hF [] [] (by kernel_rfl) (by kernel_rfl)
 replace hG:=hF.gx
 clear hF
 have z2:=hS.fr.size
 refine wp_cond_false (hK.ev 9 (by kernel_rfl) _ (by kernel_rfl)) ?_
 refine wp_skip ?_
 refine then_n ?_
 refine wp_symQ hS hG hK (fun p3=>[.v 10 (.int .i64 k),.c (some 11) (cV (.agg #[.int .u64 (H:Int),.int .u64 (L:Int),.int .i64 X])),.n 6 #[.int .u64 0,.int .u64 0,.int .i64 0] 78,.p 1002 0 [.int .u64 (H:Int),.int .u64 (L:Int),.int .i64 X]]) (fun p3=>[(2,.int .u64 0),(3,.int .u64 0),(4,.int .i64 0),(5,.int .i64 0),(6,.pointer (some ⟨(p3 2).N,0,none⟩)),(9,.bool false)]) (by kernel_rfl) (fun _ _=>by kernel_rfl) (fun _=>by kernel_rfl) (fun _=>by kernel_rfl) (fun p3=>?_) (fun p3 W3 T hF hK=>?_)
 ·refine ok_v (by kernel_rfl) ?_
  refine ok_c (fun W cx=>as_v (unhide HF _ (hT.kept cx.fr))) (by kernel_rfl) ?_
  refine ok_n (fun _=>by kernel_rfl) ?_
  refine ok_P (by kernel_rfl) (by kernel_rfl) (by kernel_rfl) ?_
  exact ok_nil
 replace hS:=SymF.fb hS hF [1002] [⟨(p3 2).N,#[.int .u64 (H:Int),.int .u64 (L:Int),.int .i64 X],78,true⟩] (by kernel_rfl) (by kernel_rfl)
 replace hG:=hF.gx
 clear hF
 have z3:=hS.fr.size
 refine wp_symQ hS hG hK (fun p4=>[.v 12 (.pointer (some ⟨(p3 2).N,0,none⟩)),.l 13 (.int .u64 (H:Int)) 0 0,.v 14 (.pointer (some ⟨(p3 2).N,1,none⟩)),.l 15 (.int .u64 (L:Int)) 0 1,.v 16 (.pointer (some ⟨(p3 2).N,2,none⟩)),.l 17 (.int .i64 X) 0 2,.v 2 (.int .u64 (H:Int)),.v 3 (.int .u64 (L:Int)),.v 4 (.int .i64 X),.v 5 (.int .i64 0)]) (fun p4=>[(2,.int .u64 (H:Int)),(3,.int .u64 (L:Int)),(4,.int .i64 X),(5,.int .i64 0),(9,.bool false)]) (by kernel_rfl) (fun _ _=>by kernel_rfl) (fun _=>by kernel_rfl) (fun _=>by kernel_rfl) (fun p4=>?_) (fun p4 W4 T hF hK=>?_)
 ·refine ok_v (by kernel_rfl) ?_
  refine ok_L (by kernel_rfl) (by kernel_rfl) (by kernel_rfl) ?_
  refine ok_v (by kernel_rfl) ?_
  refine ok_L (by kernel_rfl) (by kernel_rfl) (by kernel_rfl) ?_
  refine ok_v (by kernel_rfl) ?_
  refine ok_L (by kernel_rfl) (by kernel_rfl) (by kernel_rfl) ?_
  iterate 4 refine ok_v (by kernel_rfl) ?_
  exact ok_nil
 replace hS:=SymF.fb hS hF [] [] (by kernel_rfl) (by kernel_rfl)
 replace hG:=hF.gx
 clear hF
 have z4:=hS.fr.size
 refine wp_ret ?_
 exact sym_end hS hK (.tuple #[.int .u64 (H:Int),.int .u64 (L:Int),.int .i64 X,.int .i64 0]) [] [] (by kernel_rfl) (by kernel_rfl) ⟨rfl,hS.fr⟩
theorem pWhole_in (w:World) (k:Int) (b:Bool) (hk:-400≤k∧k≤400) (HF:Hid (∀ W:World,Calls Tryd.prog 21 #[.int .i64 k] W fun e W'=>e = .returned (.bool b)∧Below W.heap.size W W')) :
  Calls Tryd.prog 6 #[.int .i64 k] w fun en w'=>en = .returned (.tuple #[.bool b,.int .i64 0])∧Below w.heap.size w w':=by
 refine calls_sym Tryd.func6 rfl (by kernel_rfl) fun T hK=>?_
 replace hK:Kn T _ [(0,.int .i64 k)]:=hK
 have hS:=Fb.begin w
 have hG:GsAt [] w:=trivial
 refine wp_symQ hS hG hK (fun p1=>[.v 2 (.bool false),.v 3 (.int .i64 0)]) (fun p1=>[(0,.int .i64 k),(2,.bool false),(3,.int .i64 0)]) (by kernel_rfl) (fun _ _=>by kernel_rfl) (fun _=>by kernel_rfl) (fun _=>by kernel_rfl) (fun p1=>?_) (fun p1 W1 T hF hK=>?_)
 ·iterate 2 refine ok_v (by kernel_rfl) ?_
  exact ok_nil
 replace hS:=SymF.fb hS hF [] [] (by kernel_rfl) (by kernel_rfl)
 replace hG:=hF.gx
 clear hF
 have z1:=hS.fr.size
 refine wp_seq ?_
 refine wp_symQ hS hG hK (fun p2=>[.v 4 (.int .i64 k),.c (some 5) (cV (.bool true)),.v 6 (.bool false)]) (fun p2=>[(0,.int .i64 k),(2,.bool false),(3,.int .i64 0),(6,.bool false)]) (by kernel_rfl) (fun _ _=>by kernel_rfl) (fun _=>by kernel_rfl) (fun _=>by kernel_rfl) (fun p2=>?_) (fun p2 W2 T hF hK=>?_)
 ·refine ok_v (by kernel_rfl) ?_
  refine ok_c (fun W cx=>as_v (pip_t _ _ hk)) (by kernel_rfl) ?_
  refine ok_v (by kernel_rfl) ?_
  exact ok_nil
 replace hS:=SymF.fb hS hF [] [] (by kernel_rfl) (by kernel_rfl)
 replace hG:=hF.gx
 clear hF
 have z2:=hS.fr.size
 refine wp_cond_false (hK.ev 6 (by kernel_rfl) _ (by kernel_rfl)) ?_
 refine wp_skip ?_
 refine then_n ?_
 refine wp_symQ hS hG hK (fun p3=>[.v 7 (.int .i64 k),.c (some 8) (cV (.bool b)),.v 2 (.bool b),.v 3 (.int .i64 0)]) (fun p3=>[(2,.bool b),(3,.int .i64 0),(6,.bool false)]) (by kernel_rfl) (fun _ _=>by kernel_rfl) (fun _=>by kernel_rfl) (fun _=>by kernel_rfl) (fun p3=>?_) (fun p3 W3 T hF hK=>?_)
 ·refine ok_v (by kernel_rfl) ?_
  refine ok_c (fun W cx=>as_v (unhide HF _)) (by kernel_rfl) ?_
  iterate 2 refine ok_v (by kernel_rfl) ?_
  exact ok_nil
 replace hS:=SymF.fb hS hF [] [] (by kernel_rfl) (by kernel_rfl)
 replace hG:=hF.gx
 clear hF
 have z3:=hS.fr.size
 refine wp_ret ?_
 exact sym_end hS hK (.tuple #[.bool b,.int .i64 0]) [] [] (by kernel_rfl) (by kernel_rfl) ⟨rfl,hS.fr⟩
theorem pTimes_far (w:World) (m:Int) (k:Int)  (hT:Fv w) (HF:Hid (∀ W:World,Fv W→Calls Tryd.prog 11 #[.int .i64 k] W fun e W'=>e = .returned (.tuple #[.int .u64 0,.int .u64 0,.int .i64 0,.int .i64 130])∧Below W.heap.size W W')) :
  Calls Tryd.prog 8 #[.int .u64 m,.int .i64 k] w fun en w'=>en = .returned (.tuple #[.int .u64 0,.int .u64 0,.bool false,.int .i64 130])∧Below w.heap.size w w':=by
 refine calls_sym Tryd.func8 rfl (by kernel_rfl) fun T hK=>?_
 replace hK:Kn T _ [(0,.int .u64 m),(1,.int .i64 k)]:=hK
 have hS:=Fb.begin w
 have hG:GsAt [] w:=trivial
 refine wp_symQ hS hG hK (fun p1=>[.v 4 (.int .u64 0),.v 5 (.int .u64 0),.v 6 (.bool false),.v 7 (.int .i64 0)]) (fun p1=>[(0,.int .u64 m),(1,.int .i64 k),(4,.int .u64 0),(5,.int .u64 0),(6,.bool false),(7,.int .i64 0)]) (by kernel_rfl) (fun _ _=>by kernel_rfl) (fun _=>by kernel_rfl) (fun _=>by kernel_rfl) (fun p1=>?_) (fun p1 W1 T hF hK=>?_)
 ·iterate 4 refine ok_v (by kernel_rfl) ?_
  exact ok_nil
 replace hS:=SymF.fb hS hF [] [] (by kernel_rfl) (by kernel_rfl)
 replace hG:=hF.gx
 clear hF
 have z1:=hS.fr.size
 refine wp_symQ hS hG hK (fun p2=>[.v 15 (.int .i64 k),.c (some 16) (cV (.tuple #[.int .u64 0,.int .u64 0,.int .i64 0,.int .i64 130])),.v 14 (.tuple #[.int .u64 0,.int .u64 0,.int .i64 0,.int .i64 130]),.v 17 (.int .u64 0),.v 18 (.int .u64 0),.v 19 (.int .i64 0),.v 20 (.int .i64 130),.v 8 (.int .u64 0),.v 9 (.int .u64 0),.v 10 (.int .i64 0),.v 7 (.int .i64 130)]) (fun p2=>[(0,.int .u64 m),(4,.int .u64 0),(5,.int .u64 0),(6,.bool false),(7,.int .i64 130),(8,.int .u64 0),(9,.int .u64 0)]) (by kernel_rfl) (fun _ _=>by kernel_rfl) (fun _=>by kernel_rfl) (fun _=>by kernel_rfl) (fun p2=>?_) (fun p2 W2 T hF hK=>?_)
 ·refine ok_v (by kernel_rfl) ?_
  refine ok_c (fun W cx=>as_v (unhide HF _ (hT.kept cx.fr))) (by kernel_rfl) ?_
  iterate 9 refine ok_v (by kernel_rfl) ?_
  exact ok_nil
 replace hS:=SymF.fb hS hF [] [] (by kernel_rfl) (by kernel_rfl)
 replace hG:=hF.gx
 clear hF
 have z2:=hS.fr.size
 refine wp_seq ?_
 refine wp_symQ hS hG hK (fun p3=>[.v 21 (.int .i64 130),.v 22 (.bool true)]) (fun p3=>[(0,.int .u64 m),(4,.int .u64 0),(5,.int .u64 0),(6,.bool false),(7,.int .i64 130),(8,.int .u64 0),(9,.int .u64 0),(22,.bool true)]) (by kernel_rfl) (fun _ _=>by kernel_rfl) (fun _=>by kernel_rfl) (fun _=>by kernel_rfl) (fun p3=>?_) (fun p3 W3 T hF hK=>?_)
 ·iterate 2 refine ok_v (by kernel_rfl) ?_
  exact ok_nil
 replace hS:=SymF.fb hS hF [] [] (by kernel_rfl) (by kernel_rfl)
 replace hG:=hF.gx
 clear hF
 have z3:=hS.fr.size
 refine wp_cond_true (hK.ev 22 (by kernel_rfl) _ (by kernel_rfl)) ?_
 refine wp_symQ hS hG hK (fun p4=>[.v 23 (.int .i64 130),.v 4 (.int .u64 0),.v 5 (.int .u64 0),.v 6 (.bool false),.v 7 (.int .i64 130)]) (fun p4=>[(0,.int .u64 m),(4,.int .u64 0),(5,.int .u64 0),(6,.bool false),(7,.int .i64 130),(8,.int .u64 0),(9,.int .u64 0),(22,.bool true)]) (by kernel_rfl) (fun _ _=>by kernel_rfl) (fun _=>by kernel_rfl) (fun _=>by kernel_rfl) (fun p4=>?_) (fun p4 W4 T hF hK=>?_)
 ·iterate 5 refine ok_v (by kernel_rfl) ?_
  exact ok_nil
 replace hS:=SymF.fb hS hF [] [] (by kernel_rfl) (by kernel_rfl)
 replace hG:=hF.gx
 clear hF
 have z4:=hS.fr.size
 refine wp_ret ?_
 refine then_r ?_
 exact sym_end hS hK (.tuple #[.int .u64 0,.int .u64 0,.bool false,.int .i64 130]) [] [] (by kernel_rfl) (by kernel_rfl) ⟨rfl,hS.fr⟩
theorem pTimes_in (w:World) (m:Nat) (k:Int) (X:Int) (H L ca re hi lo tp:Nat) (b:Bool) (hT:Fv w) (HF:Hid (∀ W:World,Fv W→Calls Tryd.prog 11 #[.int .i64 k] W fun e W'=>e = .returned (.tuple #[.int .u64 (H:Int),.int .u64 (L:Int),.int .i64 X,.int .i64 0])∧Below W.heap.size W W')) (hm:m < 18446744073709551616) (hH2:H < 18446744073709551616) (hL2:L < 18446744073709551616) (hca:m * L / 18446744073709551616 = ca) (hre:m * L % 18446744073709551616 = re) (hhi:m * H / 18446744073709551616 = hi) (hlo:m * H % 18446744073709551616 = lo) (hTT:IntKind.u64.wrap ((hi:Int)+(((lo+ca) / 18446744073709551616:Nat):Int)) = (tp:Int)) (hb:((re:Int) != 0) = b) :
  Calls Tryd.prog 8 #[.int .u64 (m:Int),.int .i64 k] w fun en w'=>en = .returned (.tuple #[.int .u64 (tp:Int),.int .u64 (((lo+ca) % 18446744073709551616:Nat):Int),.bool b,.int .i64 0])∧Below w.heap.size w w':=by
 refine calls_sym Tryd.func8 rfl (by kernel_rfl) fun T hK=>?_
 replace hK:Kn T _ [(0,.int .u64 (m:Int)),(1,.int .i64 k)]:=hK
 have hS:=Fb.begin w
 have hG:GsAt [] w:=trivial
 refine wp_symQ hS hG hK (fun p1=>[.v 4 (.int .u64 0),.v 5 (.int .u64 0),.v 6 (.bool false),.v 7 (.int .i64 0)]) (fun p1=>[(0,.int .u64 (m:Int)),(1,.int .i64 k),(4,.int .u64 0),(5,.int .u64 0),(6,.bool false),(7,.int .i64 0)]) (by kernel_rfl) (fun _ _=>by kernel_rfl) (fun _=>by kernel_rfl) (fun _=>by kernel_rfl) (fun p1=>?_) (fun p1 W1 T hF hK=>?_)
 ·iterate 4 refine ok_v (by kernel_rfl) ?_
  exact ok_nil
 replace hS:=SymF.fb hS hF [] [] (by kernel_rfl) (by kernel_rfl)
 replace hG:=hF.gx
 clear hF
 have z1:=hS.fr.size
 refine wp_symQ hS hG hK (fun p2=>[.v 15 (.int .i64 k),.c (some 16) (cV (.tuple #[.int .u64 (H:Int),.int .u64 (L:Int),.int .i64 X,.int .i64 0])),.v 14 (.tuple #[.int .u64 (H:Int),.int .u64 (L:Int),.int .i64 X,.int .i64 0]),.v 17 (.int .u64 (H:Int)),.v 18 (.int .u64 (L:Int)),.v 19 (.int .i64 X),.v 20 (.int .i64 0),.v 8 (.int .u64 (H:Int)),.v 9 (.int .u64 (L:Int)),.v 10 (.int .i64 X),.v 7 (.int .i64 0)]) (fun p2=>[(0,.int .u64 (m:Int)),(4,.int .u64 0),(5,.int .u64 0),(6,.bool false),(7,.int .i64 0),(8,.int .u64 (H:Int)),(9,.int .u64 (L:Int))]) (by kernel_rfl) (fun _ _=>by kernel_rfl) (fun _=>by kernel_rfl) (fun _=>by kernel_rfl) (fun p2=>?_) (fun p2 W2 T hF hK=>?_)
 ·refine ok_v (by kernel_rfl) ?_
  refine ok_c (fun W cx=>as_v (unhide HF _ (hT.kept cx.fr))) (by kernel_rfl) ?_
  iterate 9 refine ok_v (by kernel_rfl) ?_
  exact ok_nil
 replace hS:=SymF.fb hS hF [] [] (by kernel_rfl) (by kernel_rfl)
 replace hG:=hF.gx
 clear hF
 have z2:=hS.fr.size
 refine wp_seq ?_
 refine wp_symQ hS hG hK (fun p3=>[.v 21 (.int .i64 0),.v 22 (.bool false)]) (fun p3=>[(0,.int .u64 (m:Int)),(4,.int .u64 0),(5,.int .u64 0),(6,.bool false),(7,.int .i64 0),(8,.int .u64 (H:Int)),(9,.int .u64 (L:Int)),(22,.bool false)]) (by kernel_rfl) (fun _ _=>by kernel_rfl) (fun _=>by kernel_rfl) (fun _=>by kernel_rfl) (fun p3=>?_) (fun p3 W3 T hF hK=>?_)
 ·iterate 2 refine ok_v (by kernel_rfl) ?_
  exact ok_nil
 replace hS:=SymF.fb hS hF [] [] (by kernel_rfl) (by kernel_rfl)
 replace hG:=hF.gx
 clear hF
 have z3:=hS.fr.size
 refine wp_cond_false (hK.ev 22 (by kernel_rfl) _ (by kernel_rfl)) ?_
 refine wp_skip ?_
 refine then_n ?_
 refine wp_symQ hS hG hK (fun p4=>[.v 25 (.int .u64 (m:Int)),.v 26 (.int .u64 (L:Int)),.c (some 27) (cV (.tuple #[.int .u64 (ca:Int),.int .u64 (re:Int)])),.v 24 (.tuple #[.int .u64 (ca:Int),.int .u64 (re:Int)]),.v 28 (.int .u64 (ca:Int)),.v 29 (.int .u64 (re:Int)),.v 11 (.int .u64 (ca:Int)),.v 12 (.int .u64 (re:Int))]) (fun p4=>[(0,.int .u64 (m:Int)),(4,.int .u64 0),(5,.int .u64 0),(6,.bool false),(7,.int .i64 0),(8,.int .u64 (H:Int)),(11,.int .u64 (ca:Int)),(12,.int .u64 (re:Int)),(22,.bool false)]) (by kernel_rfl) (fun _ _=>by kernel_rfl) (fun _=>by kernel_rfl) (fun _=>by kernel_rfl) (fun p4=>?_) (fun p4 W4 T hF hK=>?_)
 ·iterate 2 refine ok_v (by kernel_rfl) ?_
  refine ok_c (fun W cx=>as_v (mul64_any m L ca re hm hL2 hca hre _)) (by kernel_rfl) ?_
  iterate 5 refine ok_v (by kernel_rfl) ?_
  exact ok_nil
 replace hS:=SymF.fb hS hF [] [] (by kernel_rfl) (by kernel_rfl)
 replace hG:=hF.gx
 clear hF
 have z4:=hS.fr.size
 refine wp_symQ hS hG hK (fun p5=>[.v 31 (.int .u64 (m:Int)),.v 32 (.int .u64 (H:Int)),.c (some 33) (cV (.tuple #[.int .u64 (hi:Int),.int .u64 (lo:Int)])),.v 30 (.tuple #[.int .u64 (hi:Int),.int .u64 (lo:Int)]),.v 34 (.int .u64 (hi:Int)),.v 35 (.int .u64 (lo:Int)),.v 4 (.int .u64 (hi:Int)),.v 5 (.int .u64 (lo:Int))]) (fun p5=>[(4,.int .u64 (hi:Int)),(5,.int .u64 (lo:Int)),(6,.bool false),(7,.int .i64 0),(11,.int .u64 (ca:Int)),(12,.int .u64 (re:Int)),(22,.bool false)]) (by kernel_rfl) (fun _ _=>by kernel_rfl) (fun _=>by kernel_rfl) (fun _=>by kernel_rfl) (fun p5=>?_) (fun p5 W5 T hF hK=>?_)
 ·iterate 2 refine ok_v (by kernel_rfl) ?_
  refine ok_c (fun W cx=>as_v (mul64_any m H hi lo hm hH2 hhi hlo _)) (by kernel_rfl) ?_
  iterate 5 refine ok_v (by kernel_rfl) ?_
  exact ok_nil
 replace hS:=SymF.fb hS hF [] [] (by kernel_rfl) (by kernel_rfl)
 replace hG:=hF.gx
 clear hF
 have z5:=hS.fr.size
 refine wp_symQ hS hG hK (fun p6=>[.v 37 (.int .u64 (lo:Int)),.v 38 (.int .u64 (ca:Int)),.v 39 (.tuple #[.int .u64 (((lo+ca) % 18446744073709551616:Nat):Int),.int .u64 (((lo+ca) / 18446744073709551616:Nat):Int)]),.v 36 (.tuple #[.int .u64 (((lo+ca) % 18446744073709551616:Nat):Int),.int .u64 (((lo+ca) / 18446744073709551616:Nat):Int)]),.v 40 (.int .u64 (((lo+ca) % 18446744073709551616:Nat):Int)),.v 41 (.int .u64 (((lo+ca) / 18446744073709551616:Nat):Int)),.v 5 (.int .u64 (((lo+ca) % 18446744073709551616:Nat):Int)),.v 13 (.int .u64 (((lo+ca) / 18446744073709551616:Nat):Int))]) (fun p6=>[(4,.int .u64 (hi:Int)),(5,.int .u64 (((lo+ca) % 18446744073709551616:Nat):Int)),(6,.bool false),(7,.int .i64 0),(12,.int .u64 (re:Int)),(13,.int .u64 (((lo+ca) / 18446744073709551616:Nat):Int)),(22,.bool false)]) (by kernel_rfl) (fun _ _=>by kernel_rfl) (fun _=>by kernel_rfl) (fun _=>by kernel_rfl) (fun p6=>?_) (fun p6 W6 T hF hK=>?_)
 ·iterate 8 refine ok_v (by kernel_rfl) ?_
  exact ok_nil
 replace hS:=SymF.fb hS hF [] [] (by kernel_rfl) (by kernel_rfl)
 replace hG:=hF.gx
 clear hF
 have z6:=hS.fr.size
 refine wp_symQ hS hG hK (fun p7=>[.v 42 (.int .u64 (hi:Int)),.v 43 (.int .u64 (((lo+ca) / 18446744073709551616:Nat):Int)),.v 44 (.int .u64 (tp:Int)),.v 45 (.int .u64 (((lo+ca) % 18446744073709551616:Nat):Int)),.v 46 (.int .u64 (re:Int)),.v 47 (.bool b),.v 4 (.int .u64 (tp:Int)),.v 5 (.int .u64 (((lo+ca) % 18446744073709551616:Nat):Int)),.v 6 (.bool b),.v 7 (.int .i64 0)]) (fun p7=>[(4,.int .u64 (tp:Int)),(5,.int .u64 (((lo+ca) % 18446744073709551616:Nat):Int)),(6,.bool b),(7,.int .i64 0),(22,.bool false)]) (by kernel_rfl) (fun _ _=>by kernel_rfl) (fun _=>by kernel_rfl) (fun _=>by kernel_rfl) (fun p7=>?_) (fun p7 W7 T hF hK=>?_)
 ·iterate 2 refine ok_v (by kernel_rfl) ?_
  refine ok_vi (hTT) (by kernel_rfl) ?_
  iterate 2 refine ok_v (by kernel_rfl) ?_
  refine ok_vb (hb) (by kernel_rfl) ?_
  iterate 4 refine ok_v (by kernel_rfl) ?_
  exact ok_nil
 replace hS:=SymF.fb hS hF [] [] (by kernel_rfl) (by kernel_rfl)
 replace hG:=hF.gx
 clear hF
 have z7:=hS.fr.size
 refine wp_ret ?_
 exact sym_end hS hK (.tuple #[.int .u64 (tp:Int),.int .u64 (((lo+ca) % 18446744073709551616:Nat):Int),.bool b,.int .i64 0]) [] [] (by kernel_rfl) (by kernel_rfl) ⟨rfl,hS.fr⟩
theorem of_is (w:World) (h l:Int) (x e:Int)  :
  Calls Tryd.prog 10 #[.int .u64 h,.int .u64 l,.int .i64 x,.int .i64 e] w fun en w'=>en = .returned (.agg #[.int .u64 h,.int .u64 l,.int .i64 x,.int .i64 e])∧Below w.heap.size w w':=by
 refine calls_sym Tryd.func10 rfl (by kernel_rfl) fun T hK=>?_
 replace hK:Kn T _ [(0,.int .u64 h),(1,.int .u64 l),(2,.int .i64 x),(3,.int .i64 e)]:=hK
 have hS:=Fb.begin w
 have hG:GsAt [] w:=trivial
 refine wp_symQ hS hG hK (fun p1=>[.n 8 #[.int .u64 0,.int .u64 0,.int .i64 0,.int .i64 0] 29]) (fun p1=>[(0,.int .u64 h),(1,.int .u64 l),(2,.int .i64 x),(3,.int .i64 e),(8,.pointer (some ⟨(p1 0).N,0,none⟩))]) (by kernel_rfl) (fun _ _=>by kernel_rfl) (fun _=>by kernel_rfl) (fun _=>by kernel_rfl) (fun p1=>?_) (fun p1 W1 T hF hK=>?_)
 ·refine ok_n (fun _=>by kernel_rfl) ?_
  exact ok_nil
 replace hS:=SymF.fb hS hF [1000] [⟨(p1 0).N,#[.int .u64 0,.int .u64 0,.int .i64 0,.int .i64 0],29,true⟩] (by kernel_rfl) (by kernel_rfl)
 replace hG:=hF.gx
 clear hF
 have z1:=hS.fr.size
 refine wp_symQ hS hG hK (fun p2=>[.v 9 (.int .u64 h),.v 10 (.int .u64 l),.v 11 (.int .i64 x),.v 12 (.int .i64 e),.v 13 (.agg #[.int .u64 h,.int .u64 l,.int .i64 x,.int .i64 e]),.p 0 0 [.int .u64 h,.int .u64 l,.int .i64 x,.int .i64 e]]) (fun p2=>[(8,.pointer (some ⟨(p1 0).N,0,none⟩))]) (by kernel_rfl) (fun _ _=>by kernel_rfl) (fun _=>by kernel_rfl) (fun _=>by kernel_rfl) (fun p2=>?_) (fun p2 W2 T hF hK=>?_)
 ·iterate 5 refine ok_v (by kernel_rfl) ?_
  refine ok_P (by kernel_rfl) (by kernel_rfl) (by kernel_rfl) ?_
  exact ok_nil
 replace hS:=SymF.fb hS hF [0] [⟨(p1 0).N,#[.int .u64 h,.int .u64 l,.int .i64 x,.int .i64 e],29,true⟩] (by kernel_rfl) (by kernel_rfl)
 replace hG:=hF.gx
 clear hF
 have z2:=hS.fr.size
 refine wp_ret ?_
 exact sym_end hS hK (.agg #[.int .u64 h,.int .u64 l,.int .i64 x,.int .i64 e]) [(0,0,4)] [.int .u64 h,.int .u64 l,.int .i64 x,.int .i64 e] (by kernel_rfl) (by kernel_rfl) ⟨rfl,hS.fr⟩
theorem tens_walk (w:World) (k m h l x er er2 h2 l2 er3:Int) (b b2:Bool) (hT:Fv w) (H1:Hid (∀ W:World,Calls Tryd.prog 6 #[.int .i64 k] W fun e W'=>e = .returned (.tuple #[.bool b,.int .i64 er2])∧Below W.heap.size W W')) (H2:Hid (∀ W:World,Calls Tryd.prog 7 #[.int .i64 k] W fun e W'=>e = .returned (.tuple #[.bool b,.int .i64 er2])∧Below W.heap.size W W')) (H3:Hid (∀ W:World,Fv W→Calls Tryd.prog 8 #[.int .u64 m,.int .i64 k] W fun e W'=>e = .returned (.tuple #[.int .u64 h2,.int .u64 l2,.bool b2,.int .i64 er3])∧Below W.heap.size W W')) (H4:Hid (∀ W:World,Calls Tryd.prog 9 #[.int .u64 m,.int .i64 k] W fun e W'=>e = .returned (.tuple #[.int .u64 h2,.int .u64 l2,.bool b2,.int .i64 er3])∧Below W.heap.size W W')) (H5:Hid (∀ W:World,Fv W→Calls Tryd.prog 11 #[.int .i64 k] W fun e W'=>e = .returned (.tuple #[.int .u64 h,.int .u64 l,.int .i64 x,.int .i64 er])∧Below W.heap.size W W')) (H6:Hid (∀ W:World,Calls Tryd.prog 12 #[.int .i64 k] W fun e W'=>e = .returned (.tuple #[.int .u64 h,.int .u64 l,.int .i64 x,.int .i64 er])∧Below W.heap.size W W')) :
  Calls Tryd.prog 3 #[.int .i64 k,.int .u64 m] w fun en w'=>en = .returned (.bool true)∧Below w.heap.size w w':=by
 refine calls_sym Tryd.func3 rfl (by kernel_rfl) fun T hK=>?_
 replace hK:Kn T _ [(0,.int .i64 k),(1,.int .u64 m)]:=hK
 have hS:=Fb.begin w
 have hG:GsAt [] w:=trivial
 refine wp_symQ hS hG hK (fun p1=>[.v 4 (.bool false)]) (fun p1=>[(0,.int .i64 k),(1,.int .u64 m),(4,.bool false)]) (by kernel_rfl) (fun _ _=>by kernel_rfl) (fun _=>by kernel_rfl) (fun _=>by kernel_rfl) (fun p1=>?_) (fun p1 W1 T hF hK=>?_)
 ·refine ok_v (by kernel_rfl) ?_
  exact ok_nil
 replace hS:=SymF.fb hS hF [] [] (by kernel_rfl) (by kernel_rfl)
 replace hG:=hF.gx
 clear hF
 have z1:=hS.fr.size
 refine wp_symQ hS hG hK (fun p2=>[.v 18 (.int .i64 k),.c (some 19) (cV (.tuple #[.bool b,.int .i64 er2])),.v 17 (.tuple #[.bool b,.int .i64 er2]),.v 20 (.bool b),.v 21 (.int .i64 er2),.v 5 (.bool b),.v 6 (.int .i64 er2)]) (fun p2=>[(0,.int .i64 k),(1,.int .u64 m),(4,.bool false),(5,.bool b),(6,.int .i64 er2)]) (by kernel_rfl) (fun _ _=>by kernel_rfl) (fun _=>by kernel_rfl) (fun _=>by kernel_rfl) (fun p2=>?_) (fun p2 W2 T hF hK=>?_)
 ·refine ok_v (by kernel_rfl) ?_
  refine ok_c (fun W cx=>as_v (unhide H1 _)) (by kernel_rfl) ?_
  iterate 5 refine ok_v (by kernel_rfl) ?_
  exact ok_nil
 replace hS:=SymF.fb hS hF [] [] (by kernel_rfl) (by kernel_rfl)
 replace hG:=hF.gx
 clear hF
 have z2:=hS.fr.size
 refine wp_symQ hS hG hK (fun p3=>[.v 23 (.int .i64 k),.c (some 24) (cV (.tuple #[.bool b,.int .i64 er2])),.v 22 (.tuple #[.bool b,.int .i64 er2]),.v 25 (.bool b),.v 26 (.int .i64 er2),.v 7 (.bool b),.v 8 (.int .i64 er2)]) (fun p3=>[(0,.int .i64 k),(1,.int .u64 m),(4,.bool false),(5,.bool b),(6,.int .i64 er2),(7,.bool b),(8,.int .i64 er2)]) (by kernel_rfl) (fun _ _=>by kernel_rfl) (fun _=>by kernel_rfl) (fun _=>by kernel_rfl) (fun p3=>?_) (fun p3 W3 T hF hK=>?_)
 ·refine ok_v (by kernel_rfl) ?_
  refine ok_c (fun W cx=>as_v (unhide H2 _)) (by kernel_rfl) ?_
  iterate 5 refine ok_v (by kernel_rfl) ?_
  exact ok_nil
 replace hS:=SymF.fb hS hF [] [] (by kernel_rfl) (by kernel_rfl)
 replace hG:=hF.gx
 clear hF
 have z3:=hS.fr.size
 refine wp_symQ hS hG hK (fun p4=>[.v 28 (.int .u64 m),.v 29 (.int .i64 k),.c (some 30) (cV (.tuple #[.int .u64 h2,.int .u64 l2,.bool b2,.int .i64 er3])),.v 27 (.tuple #[.int .u64 h2,.int .u64 l2,.bool b2,.int .i64 er3]),.v 31 (.int .u64 h2),.v 32 (.int .u64 l2),.v 33 (.bool b2),.v 34 (.int .i64 er3),.v 9 (.int .u64 h2),.v 10 (.int .u64 l2),.v 11 (.bool b2),.v 12 (.int .i64 er3)]) (fun p4=>[(0,.int .i64 k),(1,.int .u64 m),(4,.bool false),(5,.bool b),(6,.int .i64 er2),(7,.bool b),(8,.int .i64 er2),(9,.int .u64 h2),(10,.int .u64 l2),(11,.bool b2),(12,.int .i64 er3)]) (by kernel_rfl) (fun _ _=>by kernel_rfl) (fun _=>by kernel_rfl) (fun _=>by kernel_rfl) (fun p4=>?_) (fun p4 W4 T hF hK=>?_)
 ·iterate 2 refine ok_v (by kernel_rfl) ?_
  refine ok_c (fun W cx=>as_v (unhide H3 _ (hT.kept cx.fr))) (by kernel_rfl) ?_
  iterate 9 refine ok_v (by kernel_rfl) ?_
  exact ok_nil
 replace hS:=SymF.fb hS hF [] [] (by kernel_rfl) (by kernel_rfl)
 replace hG:=hF.gx
 clear hF
 have z4:=hS.fr.size
 refine wp_symQ hS hG hK (fun p5=>[.v 36 (.int .u64 m),.v 37 (.int .i64 k),.c (some 38) (cV (.tuple #[.int .u64 h2,.int .u64 l2,.bool b2,.int .i64 er3])),.v 35 (.tuple #[.int .u64 h2,.int .u64 l2,.bool b2,.int .i64 er3]),.v 39 (.int .u64 h2),.v 40 (.int .u64 l2),.v 41 (.bool b2),.v 42 (.int .i64 er3),.v 13 (.int .u64 h2),.v 14 (.int .u64 l2),.v 15 (.bool b2),.v 16 (.int .i64 er3)]) (fun p5=>[(0,.int .i64 k),(4,.bool false),(5,.bool b),(6,.int .i64 er2),(7,.bool b),(8,.int .i64 er2),(9,.int .u64 h2),(10,.int .u64 l2),(11,.bool b2),(12,.int .i64 er3),(13,.int .u64 h2),(14,.int .u64 l2),(15,.bool b2),(16,.int .i64 er3)]) (by kernel_rfl) (fun _ _=>by kernel_rfl) (fun _=>by kernel_rfl) (fun _=>by kernel_rfl) (fun p5=>?_) (fun p5 W5 T hF hK=>?_)
 ·iterate 2 refine ok_v (by kernel_rfl) ?_
  refine ok_c (fun W cx=>as_v (unhide H4 _)) (by kernel_rfl) ?_
  iterate 9 refine ok_v (by kernel_rfl) ?_
  exact ok_nil
 replace hS:=SymF.fb hS hF [] [] (by kernel_rfl) (by kernel_rfl)
 replace hG:=hF.gx
 clear hF
 have z5:=hS.fr.size
 refine wp_symQ hS hG hK (fun p6=>[.v 43 (.int .i64 k),.c (some 44) (cV (.tuple #[.int .u64 h,.int .u64 l,.int .i64 x,.int .i64 er])),.v 45 (.int .u64 h),.v 46 (.int .u64 l),.v 47 (.int .i64 x),.v 48 (.int .i64 er),.c (some 49) (cV (.agg #[.int .u64 h,.int .u64 l,.int .i64 x,.int .i64 er])),.v 50 (.int .i64 k),.c (some 51) (cV (.tuple #[.int .u64 h,.int .u64 l,.int .i64 x,.int .i64 er])),.v 52 (.int .u64 h),.v 53 (.int .u64 l),.v 54 (.int .i64 x),.v 55 (.int .i64 er),.c (some 56) (cV (.agg #[.int .u64 h,.int .u64 l,.int .i64 x,.int .i64 er])),.v 57 (.bool true),.v 58 (.bool true),.v 59 (.bool b),.v 60 (.bool b),.v 61 (.bool true),.v 62 (.bool true),.v 63 (.bool true),.v 64 (.int .i64 er2),.v 65 (.int .i64 er2),.v 66 (.bool true),.v 67 (.bool true),.v 68 (.bool true),.v 69 (.int .u64 h2),.v 70 (.int .u64 h2),.v 71 (.bool true),.v 72 (.bool true),.v 73 (.bool true),.v 74 (.int .u64 l2),.v 75 (.int .u64 l2),.v 76 (.bool true),.v 77 (.bool true),.v 78 (.bool true),.v 79 (.bool b2),.v 80 (.bool b2),.v 81 (.bool true),.v 82 (.bool true),.v 83 (.bool true),.v 84 (.int .i64 er3),.v 85 (.int .i64 er3),.v 86 (.bool true),.v 87 (.bool true),.v 4 (.bool true)]) (fun p6=>[(4,.bool true)]) (by kernel_rfl) (fun _ _=>by kernel_rfl) (fun _=>by kernel_rfl) (fun _=>by kernel_rfl) (fun p6=>?_) (fun p6 W6 T hF hK=>?_)
 ·refine ok_v (by kernel_rfl) ?_
  refine ok_c (fun W cx=>as_v (unhide H5 _ (hT.kept cx.fr))) (by kernel_rfl) ?_
  iterate 4 refine ok_v (by kernel_rfl) ?_
  refine ok_c (fun W cx=>as_v (of_is _ h l x er)) (by kernel_rfl) ?_
  refine ok_v (by kernel_rfl) ?_
  refine ok_c (fun W cx=>as_v (unhide H6 _)) (by kernel_rfl) ?_
  iterate 4 refine ok_v (by kernel_rfl) ?_
  refine ok_c (fun W cx=>as_v (of_is _ h l x er)) (by kernel_rfl) ?_
  refine ok_vr (script_eqtold h l x er) (by kernel_rfl) ?_
  iterate 3 refine ok_v (by kernel_rfl) ?_
  refine ok_vb (beq_self_eq_true (b:Bool)) (by kernel_rfl) ?_
  iterate 4 refine ok_v (by kernel_rfl) ?_
  refine ok_vb (beq_self_eq_true (er2:Int)) (by kernel_rfl) ?_
  iterate 4 refine ok_v (by kernel_rfl) ?_
  refine ok_vb (beq_self_eq_true (h2:Int)) (by kernel_rfl) ?_
  iterate 4 refine ok_v (by kernel_rfl) ?_
  refine ok_vb (beq_self_eq_true (l2:Int)) (by kernel_rfl) ?_
  iterate 4 refine ok_v (by kernel_rfl) ?_
  refine ok_vb (beq_self_eq_true (b2:Bool)) (by kernel_rfl) ?_
  iterate 4 refine ok_v (by kernel_rfl) ?_
  refine ok_vb (beq_self_eq_true (er3:Int)) (by kernel_rfl) ?_
  iterate 2 refine ok_v (by kernel_rfl) ?_
  exact ok_nil
 replace hS:=SymF.fb hS hF [] [] (by kernel_rfl) (by kernel_rfl)
 replace hG:=hF.gx
 clear hF
 have z6:=hS.fr.size
 refine wp_ret ?_
 exact sym_end hS hK (.bool true) [] [] (by kernel_rfl) (by kernel_rfl) ⟨rfl,hS.fr⟩
end Go.Proofs.YteblliofeaahmaaDoor
