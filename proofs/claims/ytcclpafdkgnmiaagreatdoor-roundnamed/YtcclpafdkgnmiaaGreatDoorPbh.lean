/- Of what RoundNamedRow stands on: SFrac SRatC SAlive SLawNamed. -/
import Derived.Test.YtcclpafdkgnmiaaGreatDoorPbf
import Derived.Test.YtcclpafdkgnmiaaGreatDoorPbg
namespace Go.Proofs.YtcclpafdkgnmiaaGreatDoor
open Go.RowKit
set_option maxHeartbeats 2000000
set_option maxRecDepth 20000
theorem num_new (w:World) (n:Nat) (h0:0 < n) (h1:n < 4294967296):Num (w.alloc (.cells #[.int .u32 (n:Int)] 31)) (some ⟨w.heap.size,0,none⟩) 1 n:=by
 refine ⟨[n],rfl,Or.inr ⟨w.heap.size,0,rfl,fun j hj=>?_⟩,fun x hx=>?_,?_,?_,by omega⟩
 ·have hj0:j = 0:=by simp at hj; omega
  subst hj0
  rw [cell_of_row _ w.heap.size 0 _ _ _ (heap_alloc_new w _)]; rfl
 ·simp at hx; omega
 ·simp [Pl.Norm]; omega
 ·simp [Pl.val]
theorem frac_is (s:Bool) (n d:Nat) (hn:0 < n) (hn2:n < 4294967296) (hd:0 < d) (hd2:d < 4294967296) (hg:Nat.gcd n d = 1) (w:World) :
  Calls Tryz.prog 7 #[.bool s,.int .u32 (n:Int),.int .u32 (d:Int)] w fun en w'=>(∃ a k c a' k' c',en = .returned (.tuple #[.agg #[.bool s,.slice a k c,.slice a' k' c'],.int .i64 0])∧Mine w' w.heap.size a k c n∧Mine w' w.heap.size a' k' c' d)∧Below w.heap.size w w':=by
 have q1:=num_new (w.alloc (.cells #[.bool false,.slice none 0 0,.slice none 0 0] 27)) n hn hn2
 have q2:=num_new ((w.alloc (.cells #[.bool false,.slice none 0 0,.slice none 0 0] 27)).alloc (.cells #[.int .u32 (n:Int)] 31)) d hd hd2
 replace q1:=q1.kept (gr_alloc _ (.cells #[.int .u32 (d:Int)] 31))
 have hS:=(Fs.one w #[.bool false,.slice none 0 0,.slice none 0 0] 27).kept (gr_alloc _ (.cells #[.int .u32 (n:Int)] 31))
 replace hS:=hS.kept (gr_alloc _ (.cells #[.int .u32 (d:Int)] 31))
 simp only [World.size_alloc] at q1 q2
 have hb0:=hS.fr
 have HS:=hide hS
 have H1:=hide q1
 have H2:=hide q2
 clear q1 q2 hS
 go_enter Tryz.func7,Tryz.ntmps7
 go_wp2_with fail
 refine (make_any s _ _ 1 1 1 1 n d _ (unhide H1) (unhide H2) hd).mono ?_
 rintro en w1 ⟨hr,hb1⟩
 rw [hg,Nat.div_one,Nat.div_one] at hr
 rcases hr with ⟨a,k,c,a',k',c',rfl,g1,g2⟩|⟨-,ho⟩
 ·have hS:=(unhide HS).kept hb1
  have hdn:decide (n = 0) = false:=by simp; omega
  rw [hdn]
  have hz:=hb1.size
  have hz0:=hb0.size
  obtain ⟨⟨z0,z1,z2,-⟩,-⟩:=hS.cells
  have Q_:=hS.frozen (b:=w.heap.size) (cs:=#[.bool false,.slice none 0 0,.slice none 0 0]) (t:=27) (by simp)
  have f0:=Q_ 0
  have f1:=Q_ 1
  have f2:=Q_ 2
  clear Q_
  have G1:=hide g1
  have G2:=hide g2
  have HF:=hide hS
  clear g1 g2 hdn hS hb0 hb1 hz hz0 hn hn2 hd hd2
  simp only [RatV,Bool.and_true,Bool.not_false]
  go_wp2
  have hS:=unhide HF
  have e1:=hS.put (b:=w.heap.size) (cs:=#[.bool false,.slice none 0 0,.slice none 0 0]) (t:=27) (by simp) (by omega) 0 (.bool s) [⟨w.heap.size,#[.bool s,.slice none 0 0,.slice none 0 0],27⟩] (by simp)
  have e2:=e1.put (b:=w.heap.size) (cs:=#[.bool s,.slice none 0 0,.slice none 0 0]) (t:=27) (by simp) (by omega) 1 (.slice a k c) [⟨w.heap.size,#[.bool s,.slice a k c,.slice none 0 0],27⟩] (by simp)
  have e3:=e2.put (b:=w.heap.size) (cs:=#[.bool s,.slice a k c,.slice none 0 0]) (t:=27) (by simp) (by omega) 2 (.slice a' k' c') [⟨w.heap.size,#[.bool s,.slice a k c,.slice a' k' c'],27⟩] (by simp)
  have b0:=hS.bx ⟨w.heap.size,#[.bool false,.slice none 0 0,.slice none 0 0],27⟩ (by simp)
  have b1:=e1.bx ⟨w.heap.size,#[.bool s,.slice none 0 0,.slice none 0 0],27⟩ (by simp)
  have b2:=e2.bx ⟨w.heap.size,#[.bool s,.slice a k c,.slice none 0 0],27⟩ (by simp)
  obtain ⟨⟨y0,y1,y2,-⟩,-⟩:=e3.cells
  have ho:w.heap.size≤(((w.alloc (.cells #[.bool false,.slice none 0 0,.slice none 0 0] 27)).alloc (.cells #[.int .u32 (n:Int)] 31)).alloc (.cells #[.int .u32 (d:Int)] 31)).heap.size:=by simp; omega
  exact bodyPost_ret (v:=.tuple #[.agg #[.bool s,.slice a k c,.slice a' k' c'],.int .i64 0]) (by simp [results,Tryz.results7,go_sem,y0,y1,y2]) rfl ⟨⟨a,k,c,a',k',c',rfl,((((unhide G1).put b0 (by simp) 0 _).put b1 (by simp) 1 _).put b2 (by simp) 2 _).mono ho,((((unhide G2).put b0 (by simp) 0 _).put b1 (by simp) 1 _).put b2 (by simp) 2 _).mono ho⟩,e3.fr⟩
 ·have e32:(2:Nat) ^ 32 = 4294967296:=by decide
  rcases ho with ho|ho
  ·exact absurd ho (no_over (K:=32) (by omega) (by omega))
  ·exact absurd ho (no_over (K:=32) (by omega) (by omega))
theorem rchk_ok (s:Bool) (a b:Option Addr) (n c k l m d:Nat) (h0:0 < m) (hd:0 < d) (hg:Nat.gcd m d = 1) (W:World) (h1:Num W a n m) (h2:Num W b k d) :
  Calls Tryz.prog 22 #[.agg #[.bool s,.slice a n c,.slice b k l]] W fun e W'=>e = .returned (.int .i64 0)∧Below W.heap.size W W':=by
 have hk:0 < k:=by have:=h2.zero; omega
 have hn:0 < n:=by have:=h1.zero; omega
 cases s
 ·exact rk_ok_f a n c m b k l d W hk h1 h2 hg
 ·exact rk_ok_t a n c m b k l d W hk hn h1 h2 hg
theorem rat_c (E F B S I md:Nat) (s ng:Bool) (m d z q K bt fl:Nat) (X:Int) (hfo:Fo E F) (hS:S = 2 ^ (F+E)) (hI:I = (2 ^ E - 1) * 2 ^ F) (hB:B = 2 ^ (E - 1) - 1) (hm:md≤4) (h0:0 < m) (hd:0 < d) (hg:Nat.gcd m d = 1) (bm:blen m≤64) (bd:blen d≤64) (hz:sAns m d = 2 ^ z * (2 * q+1)) (hz2:z≤300) (hX:sExp m d+(z:Int) = X) (hK:blen (2 * q+1) = K) (hbt:bitsR S I md s (rowR B F md s (2 * q+1) K X) = bt) (hfl:flagR B F I md s (2 * q+1) K X = fl)
  (a b:Option Addr) (n c k l:Nat) (w:World) (hT:Tb w) (h1:Num w a n m) (h2:Num w b k d) :
  Calls Tryz.prog 8 #[.agg #[.int .i64 (E:Int),.int .i64 (F:Int)],.agg #[.bool s,.slice a n c,.slice b k l],.bool ng,.int .u8 (md:Int)] w fun e w'=>e = .returned (.tuple #[.int .u64 (bt:Int),.int .u8 (fl:Int),.int .i64 0])∧Below w.heap.size w w':=by
 have:=sratio_is (E:=E) (F:=F) (S:=S) (I:=I) (B:=B) (md:=md) ⟨hfo,hS,hI⟩ hB hm ng s a b n c k l m d w hT h1 h2 (by omega) hd (by omega) (by omega) (by omega) (by omega) (hide fun W q1 q2=>rchk_ok s a b n c k l m d h0 hd hg W q1 q2) z (2 * q+1) K X ⟨q,hz⟩ (by omega) (by rw [hz,Nat.mul_div_cancel_left _ (Nat.pow_pos (by omega))]) hX (by rw [← hK]; exact bl_blen _)
 rw [hbt,hfl] at this
 exact this
theorem Mine.limb {w:World} {B:Nat} {a:Option Addr} {n c m:Nat} (h:Mine w B a n c m) (h0:0 < m) (h1:m < 4294967296):n = 1∧∃ b,a = some ⟨b,0,none⟩∧w.cell? ⟨b,0,none⟩ = some (.int .u32 (m:Int)):=by
 have hn:n = 1:=by
  obtain ⟨xs,hl,-,hw,hN,hv,-⟩:=h
  match xs,hl,hw,hN,hv with
  | [],hl,_,_,hv=>simp [Pl.val] at hv; omega
  | [x],hl,_,_,_=>simpa using hl.symm
  | x :: y :: r,hl,hw,hN,hv=>
   exfalso
   have h3:Pl.val (y :: r)≠0:=by
    intro h4
    have:=Pl.norm_lower (xs:=x :: y :: r) hN (by simp)
    simp only [Pl.val] at this hv h4
    have h5:(4294967296:Nat) ^ 1≤4294967296 ^ ((x :: y :: r).length - 1):=Nat.pow_le_pow_right (by omega) (by simp)
    omega
   simp only [Pl.val] at hv h3
   omega
 refine ⟨hn,?_⟩
 subst hn
 obtain ⟨xs,hl,ho,hw,hN,hv,-⟩:=h
 match xs,hl,ho,hv with
 | [x],_,ho,hv=>
  simp [Pl.val] at hv
  subst hv
  rcases ho with ⟨e,-⟩|⟨g,cap,cur,e,hg,hh,-,-,-,hc⟩
  ·cases e
  ·injection e with e1 e2 e3
   refine ⟨g,e1,?_⟩
   rw [cell_of_row w g 0 _ _ _ hh]
   have:=hc 0 (by simp)
   simpa using this
theorem salive_is (w:World) (hT:Tb w) (hN:Nb5 w) :
  Calls Tryz.prog 6 #[] w fun en w'=>en = .returned (.bool true)∧Below w.heap.size w w':=by
 refine calls_sym Tryz.func6 rfl (by kernel_rfl) fun T hK=>?_
 replace hK:Kn T _ []:=hK
 have hS:=Fb.begin w
 have hG:GsAt [] w:=trivial
 refine wp_symQ hS hG hK (fun p1=>[.v 0 (.bool false)]) (fun p1=>[(0,.bool false)]) (by kernel_rfl) (fun _ _=>by kernel_rfl) (fun _=>by kernel_rfl) (fun _=>by kernel_rfl) (fun p1=>?_) (fun p1 W1 T hF hK=>?_)
 ·refine ok_v (by kernel_rfl) ?_
  exact ok_nil
 replace hS:=SymF.fb hS hF [] [] (by kernel_rfl) (by kernel_rfl)
 replace hG:=hF.gx
 clear hF
 have z1:=hS.fr.size
 refine wp_symQ hS hG hK (fun p2=>[.c (some 15) (cH W1.heap.size 1 3 fun x9 y9=>.tuple #[.agg #[.bool true,x9,y9],.int .i64 0]),.v 14 (.tuple #[.agg #[.bool true,.slice (p2 0).A (p2 0).N (p2 0).C,.slice (p2 0).A' (p2 0).N' (p2 0).C'],.int .i64 0]),.v 16 (.agg #[.bool true,.slice (p2 0).A (p2 0).N (p2 0).C,.slice (p2 0).A' (p2 0).N' (p2 0).C']),.v 17 (.int .i64 0),.n 1 #[.bool false,.slice none 0 0,.slice none 0 0] 27,.p 1004 0 [.bool true,.slice (p2 0).A (p2 0).N (p2 0).C,.slice (p2 0).A' (p2 0).N' (p2 0).C'],.v 2 (.int .i64 0)]) (fun p2=>[(0,.bool false),(1,.pointer (some ⟨(p2 4).N,0,none⟩)),(2,.int .i64 0)]) (by kernel_rfl) (fun _ _=>by kernel_rfl) (fun _=>by kernel_rfl) (fun _=>by kernel_rfl) (fun p2=>?_) (fun p2 W2 T hF hK=>?_)
 ·refine ok_c (fun W cx=>as_h cx.hb (frac_is true 1 3 (by decide) (by decide) (by decide) (by decide) (by decide) _)) (by kernel_rfl) ?_
  iterate 3 refine ok_v (by kernel_rfl) ?_
  refine ok_n (fun _=>by kernel_rfl) ?_
  refine ok_P (by kernel_rfl) (by kernel_rfl) (by kernel_rfl) ?_
  refine ok_v (by kernel_rfl) ?_
  exact ok_nil
 replace hS:=SymF.fb hS hF [1004] [⟨(p2 4).N,#[.bool true,.slice (p2 0).A (p2 0).N (p2 0).C,.slice (p2 0).A' (p2 0).N' (p2 0).C'],27,true⟩] (by kernel_rfl) (by kernel_rfl)
 replace hG:GsAt (gM W1.heap.size (p2 0).A (p2 0).N (p2 0).C 1 :: gM W1.heap.size (p2 0).A' (p2 0).N' (p2 0).C' 3 :: _) W2:=⟨And.left (hF.fx 0),And.right (hF.fx 0),hF.gx⟩
 clear hF
 have z2:=hS.fr.size
 refine wp_symQ hS hG hK (fun p3=>[.c (some 19) (cH W2.heap.size 5 2 fun x9 y9=>.tuple #[.agg #[.bool false,x9,y9],.int .i64 0]),.v 18 (.tuple #[.agg #[.bool false,.slice (p3 0).A (p3 0).N (p3 0).C,.slice (p3 0).A' (p3 0).N' (p3 0).C'],.int .i64 0]),.v 20 (.agg #[.bool false,.slice (p3 0).A (p3 0).N (p3 0).C,.slice (p3 0).A' (p3 0).N' (p3 0).C']),.v 21 (.int .i64 0),.n 3 #[.bool false,.slice none 0 0,.slice none 0 0] 27,.p 1004 0 [.bool false,.slice (p3 0).A (p3 0).N (p3 0).C,.slice (p3 0).A' (p3 0).N' (p3 0).C'],.v 4 (.int .i64 0)]) (fun p3=>[(0,.bool false),(1,.pointer (some ⟨(p2 4).N,0,none⟩)),(2,.int .i64 0),(3,.pointer (some ⟨(p3 4).N,0,none⟩)),(4,.int .i64 0)]) (by kernel_rfl) (fun _ _=>by kernel_rfl) (fun _=>by kernel_rfl) (fun _=>by kernel_rfl) (fun p3=>?_) (fun p3 W3 T hF hK=>?_)
 ·refine ok_c (fun W cx=>as_h cx.hb (frac_is false 5 2 (by decide) (by decide) (by decide) (by decide) (by decide) _)) (by kernel_rfl) ?_
  iterate 3 refine ok_v (by kernel_rfl) ?_
  refine ok_n (fun _=>by kernel_rfl) ?_
  refine ok_P (by kernel_rfl) (by kernel_rfl) (by kernel_rfl) ?_
  refine ok_v (by kernel_rfl) ?_
  exact ok_nil
 replace hS:=SymF.fb hS hF [0,1004] [⟨(p2 4).N,#[.bool true,.slice (p2 0).A (p2 0).N (p2 0).C,.slice (p2 0).A' (p2 0).N' (p2 0).C'],27,true⟩,⟨(p3 4).N,#[.bool false,.slice (p3 0).A (p3 0).N (p3 0).C,.slice (p3 0).A' (p3 0).N' (p3 0).C'],27,true⟩] (by kernel_rfl) (by kernel_rfl)
 replace hG:GsAt (gM W2.heap.size (p3 0).A (p3 0).N (p3 0).C 5 :: gM W2.heap.size (p3 0).A' (p3 0).N' (p3 0).C' 2 :: _) W3:=⟨And.left (hF.fx 0),And.right (hF.fx 0),hF.gx⟩
 clear hF
 have z3:=hS.fr.size
 refine wp_symQ hS hG hK (fun p4=>[.v 23 (.agg #[.int .i64 5,.int .i64 10]),.l 24 (.agg #[.bool true,.slice (p2 0).A (p2 0).N (p2 0).C,.slice (p2 0).A' (p2 0).N' (p2 0).C']) 0 0,.c (some 25) (cV (.tuple #[.int .u64 46421,.int .u8 1,.int .i64 0])),.v 22 (.tuple #[.int .u64 46421,.int .u8 1,.int .i64 0]),.v 26 (.int .u64 46421),.v 27 (.int .u8 1),.v 28 (.int .i64 0),.v 5 (.int .u64 46421),.v 6 (.int .u8 1),.v 7 (.int .i64 0)]) (fun p4=>[(0,.bool false),(2,.int .i64 0),(3,.pointer (some ⟨(p3 4).N,0,none⟩)),(4,.int .i64 0),(5,.int .u64 46421),(6,.int .u8 1),(7,.int .i64 0)]) (by kernel_rfl) (fun _ _=>by kernel_rfl) (fun _=>by kernel_rfl) (fun _=>by kernel_rfl) (fun p4=>?_) (fun p4 W4 T hF hK=>?_)
 ·refine ok_v (by kernel_rfl) ?_
  refine ok_L (by kernel_rfl) (by kernel_rfl) (by kernel_rfl) ?_
  refine ok_c (fun W cx=>as_v (rat_c 5 10 15 32768 31744 0 true false 1 3 0 24595658764946068821 66 46421 1 (-67) ⟨by decide,by decide,by decide,by decide⟩ (by decide) (by decide) (by decide) (by decide) (by decide) (by decide) (by decide) (by decide) (by decide) (by kernel_rfl) (by decide) (by kernel_rfl) (by kernel_rfl) (by kernel_rfl) (by kernel_rfl) _ _ _ (p2 0).C _ (p2 0).C' _ (hT.kept cx.fr) (Mine.num cx.G.2.2.1) (Mine.num cx.G.2.2.2.1))) (by kernel_rfl) ?_
  iterate 7 refine ok_v (by kernel_rfl) ?_
  exact ok_nil
 replace hS:=SymF.fb hS hF [1] [⟨(p3 4).N,#[.bool false,.slice (p3 0).A (p3 0).N (p3 0).C,.slice (p3 0).A' (p3 0).N' (p3 0).C'],27,true⟩] (by kernel_rfl) (by kernel_rfl)
 replace hG:=hF.gx
 clear hF
 have z4:=hS.fr.size
 refine wp_symQ hS hG hK (fun p5=>[.l 30 (.agg #[.bool false,.slice (p3 0).A (p3 0).N (p3 0).C,.slice (p3 0).A' (p3 0).N' (p3 0).C']) 0 0,.c (some 31) (cG W4.heap.size 2 fun x9=>.tuple #[.bool false,.agg #[x9],.bool false,.int .i64 0]),.v 29 (.tuple #[.bool false,.agg #[.slice (p5 1).A (p5 1).N (p5 1).C],.bool false,.int .i64 0]),.v 32 (.bool false),.v 33 (.agg #[.slice (p5 1).A (p5 1).N (p5 1).C]),.v 34 (.bool false),.v 35 (.int .i64 0),.n 9 #[.slice none 0 0] 25,.v 8 (.bool false),.p 1007 0 [.slice (p5 1).A (p5 1).N (p5 1).C],.v 10 (.bool false),.v 11 (.int .i64 0)]) (fun p5=>[(0,.bool false),(2,.int .i64 0),(4,.int .i64 0),(5,.int .u64 46421),(6,.int .u8 1),(7,.int .i64 0),(8,.bool false),(9,.pointer (some ⟨(p5 7).N,0,none⟩)),(10,.bool false),(11,.int .i64 0)]) (by kernel_rfl) (fun _ _=>by kernel_rfl) (fun _=>by kernel_rfl) (fun _=>by kernel_rfl) (fun p5=>?_) (fun p5 W5 T hF hK=>?_)
 ·refine ok_L (by kernel_rfl) (by kernel_rfl) (by kernel_rfl) ?_
  refine ok_c (fun W cx=>as_g cx.hb (whole_near _ _ (p3 0).C 5 _ _ (p3 0).C' 2 0 (by decide) 1 2 false (by decide) (by decide) (by decide) (by decide) (by decide) (farther_any 0 false false 0 (by decide) (Or.inr (Or.inl rfl))) _ (Mine.num cx.G.1) (Mine.num cx.G.2.1) (by decide) (hide fun W9 hb9=>rchk_ok false _ _ _ _ _ _ 5 2 (by decide) (by decide) (by decide) W9 (Num.kept (Mine.num cx.G.1) hb9) (Num.kept (Mine.num cx.G.2.1) hb9)))) (by kernel_rfl) ?_
  iterate 5 refine ok_v (by kernel_rfl) ?_
  refine ok_n (fun _=>by kernel_rfl) ?_
  refine ok_v (by kernel_rfl) ?_
  refine ok_P (by kernel_rfl) (by kernel_rfl) (by kernel_rfl) ?_
  iterate 2 refine ok_v (by kernel_rfl) ?_
  exact ok_nil
 replace hS:=SymF.fb hS hF [1007] [⟨(p5 7).N,#[.slice (p5 1).A (p5 1).N (p5 1).C],25,true⟩] (by kernel_rfl) (by kernel_rfl)
 replace hG:GsAt (gM W4.heap.size (p5 1).A (p5 1).N (p5 1).C 2 :: _) W5:=⟨hF.fx 1,hF.gx⟩
 clear hF
 have z5:=hS.fr.size
 refine wp_symQ hS hG hK (fun p6=>[.c (some 37) (cV (.tuple #[.int .u8 1,.bool true])),.v 36 (.tuple #[.int .u8 1,.bool true]),.v 38 (.int .u8 1),.v 39 (.bool true),.v 12 (.int .u8 1),.v 13 (.bool true)]) (fun p6=>[(0,.bool false),(2,.int .i64 0),(4,.int .i64 0),(5,.int .u64 46421),(6,.int .u8 1),(7,.int .i64 0),(8,.bool false),(9,.pointer (some ⟨(p5 7).N,0,none⟩)),(10,.bool false),(11,.int .i64 0),(12,.int .u8 1),(13,.bool true)]) (by kernel_rfl) (fun _ _=>by kernel_rfl) (fun _=>by kernel_rfl) (fun _=>by kernel_rfl) (fun p6=>?_) (fun p6 W6 T hF hK=>?_)
 ·refine ok_c (fun W cx=>as_v (named_1 ⟨#[97,119,97,121]⟩ _ (hN.kept cx.fr) (by kernel_rfl) (by kernel_rfl))) (by kernel_rfl) ?_
  iterate 5 refine ok_v (by kernel_rfl) ?_
  exact ok_nil
 replace hS:=SymF.fb hS hF [0] [⟨(p5 7).N,#[.slice (p5 1).A (p5 1).N (p5 1).C],25,true⟩] (by kernel_rfl) (by kernel_rfl)
 replace hG:=hF.gx
 clear hF
 have z6:=hS.fr.size
 obtain ⟨eN,b9,eA,hc9⟩:=Mine.limb hG.1 (by decide) (by decide)
 rw [eA,eN] at hS
 replace hG:GsAt (gL b9 0 2 :: _) W6:=⟨hc9,hG⟩
 refine wp_symQ hS hG hK (fun p7=>[.v 40 (.int .i64 0),.v 41 (.bool true),.v 42 (.bool true),.v 43 (.int .i64 0),.v 44 (.bool true),.v 45 (.bool true),.v 46 (.bool true),.v 47 (.int .i64 0),.v 48 (.bool true),.v 49 (.bool true),.v 50 (.bool true),.v 51 (.int .i64 0),.v 52 (.bool true),.v 53 (.bool true),.v 54 (.bool true),.v 55 (.int .u64 46421),.v 56 (.bool true),.v 57 (.bool true),.v 58 (.bool true),.v 59 (.int .u8 1),.v 60 (.bool true),.v 61 (.bool true),.v 62 (.bool true),.v 63 (.bool false),.v 64 (.bool true),.v 65 (.bool true),.v 66 (.bool true),.v 67 (.bool false),.v 68 (.bool true),.v 69 (.bool true),.v 70 (.bool true),.v 71 (.pointer (some ⟨(p5 7).N,0,none⟩)),.l 72 (.slice (some ⟨b9,0,none⟩) 1 (p5 1).C) 0 0,.v 73 (.int .i64 1),.v 74 (.bool true),.v 75 (.bool true),.v 76 (.bool true),.v 77 (.pointer (some ⟨(p5 7).N,0,none⟩)),.l 78 (.slice (some ⟨b9,0,none⟩) 1 (p5 1).C) 0 0,.v 79 (.pointer (some ⟨b9,0,none⟩)),.g 80 (.int .u32 2) [.int .u32 2] [.ld ⟨b9,0,none⟩ (.int .u32 2)],.v 81 (.bool true),.v 82 (.bool true),.v 83 (.bool true),.v 84 (.int .u8 1),.v 85 (.bool true),.v 86 (.bool true),.v 87 (.bool true),.v 88 (.bool true),.v 89 (.bool true),.v 0 (.bool true)]) (fun p7=>[(0,.bool true)]) (by kernel_rfl) (fun _ _=>by kernel_rfl) (fun _=>by kernel_rfl) (fun _=>by kernel_rfl) (fun p7=>?_) (fun p7 W7 T hF hK=>?_)
 ·iterate 32 refine ok_v (by kernel_rfl) ?_
  refine ok_L (by kernel_rfl) (by kernel_rfl) (by kernel_rfl) ?_
  iterate 5 refine ok_v (by kernel_rfl) ?_
  refine ok_L (by kernel_rfl) (by kernel_rfl) (by kernel_rfl) ?_
  refine ok_v (by kernel_rfl) ?_
  refine ok_g (fun W cx=>⟨⟨cx.G.1,trivial⟩,rfl⟩) (by kernel_rfl) ?_
  iterate 10 refine ok_v (by kernel_rfl) ?_
  exact ok_nil
 replace hS:=SymF.fb hS hF [] [] (by kernel_rfl) (by kernel_rfl)
 replace hG:=hF.gx
 clear hF
 have z7:=hS.fr.size
 refine wp_ret ?_
 exact sym_end hS hK (.bool true) [] [] (by kernel_rfl) (by kernel_rfl) ⟨rfl,hS.fr⟩
theorem named_true_w (w:World) (md j:Nat) (s str:ByteArray) (er:Int) (hT:Tb w) (hN:Nb5 w) (H1:Hid (∀ W:World,Below w.heap.size w W→Calls Tryz.prog 9 #[.int .u8 (md:Int)] W fun e W'=>e = .returned (.tuple #[.string str,.int .i64 er])∧Below W.heap.size W W')) (H2:Hid (∀ W:World,Below w.heap.size w W→Calls Tryz.prog 10 #[.int .u8 (md:Int)] W fun e W'=>e = .returned (.tuple #[.string str,.int .i64 er])∧Below W.heap.size W W')) (H3:Hid (∀ W:World,Below w.heap.size w W→Calls Tryz.prog 11 #[.string s] W fun e W'=>e = .returned (.tuple #[.int .u8 (j:Int),.bool true])∧Below W.heap.size W W')) (H4:Hid (∀ W:World,Below w.heap.size w W→Calls Tryz.prog 12 #[.string s] W fun e W'=>e = .returned (.tuple #[.int .u8 (j:Int),.bool true])∧Below W.heap.size W W')) :
  Calls Tryz.prog 4 #[.int .u8 (md:Int),.string s] w fun en w'=>en = .returned (.bool true)∧Below w.heap.size w w':=by
 refine calls_sym Tryz.func4 rfl (by kernel_rfl) fun T hK=>?_
 replace hK:Kn T _ [(0,.int .u8 (md:Int)),(1,.string s)]:=hK
 have hS:=Fb.begin w
 have hG:GsAt [] w:=trivial
 refine wp_symQ hS hG hK (fun p1=>[.v 4 (.bool false)]) (fun p1=>[(0,.int .u8 (md:Int)),(1,.string s),(4,.bool false)]) (by kernel_rfl) (fun _ _=>by kernel_rfl) (fun _=>by kernel_rfl) (fun _=>by kernel_rfl) (fun p1=>?_) (fun p1 W1 T hF hK=>?_)
 ·refine ok_v (by kernel_rfl) ?_
  exact ok_nil
 replace hS:=SymF.fb hS hF [] [] (by kernel_rfl) (by kernel_rfl)
 replace hG:=hF.gx
 clear hF
 have z1:=hS.fr.size
 refine wp_symQ hS hG hK (fun p2=>[.c (some 14) (cV (.bool true)),.v 5 (.bool true)]) (fun p2=>[(0,.int .u8 (md:Int)),(1,.string s),(4,.bool false),(5,.bool true)]) (by kernel_rfl) (fun _ _=>by kernel_rfl) (fun _=>by kernel_rfl) (fun _=>by kernel_rfl) (fun p2=>?_) (fun p2 W2 T hF hK=>?_)
 ·refine ok_c (fun W cx=>as_v (salive_is _ (hT.kept cx.fr) (hN.kept cx.fr))) (by kernel_rfl) ?_
  refine ok_v (by kernel_rfl) ?_
  exact ok_nil
 replace hS:=SymF.fb hS hF [] [] (by kernel_rfl) (by kernel_rfl)
 replace hG:=hF.gx
 clear hF
 have z2:=hS.fr.size
 refine wp_symQ hS hG hK (fun p3=>[.v 16 (.int .u8 (md:Int)),.c (some 17) (cV (.tuple #[.string str,.int .i64 er])),.v 15 (.tuple #[.string str,.int .i64 er]),.v 18 (.string str),.v 19 (.int .i64 er),.v 6 (.string str),.v 7 (.int .i64 er)]) (fun p3=>[(0,.int .u8 (md:Int)),(1,.string s),(4,.bool false),(5,.bool true),(6,.string str),(7,.int .i64 er)]) (by kernel_rfl) (fun _ _=>by kernel_rfl) (fun _=>by kernel_rfl) (fun _=>by kernel_rfl) (fun p3=>?_) (fun p3 W3 T hF hK=>?_)
 ·refine ok_v (by kernel_rfl) ?_
  refine ok_c (fun W cx=>as_v (unhide H1 _ cx.fr)) (by kernel_rfl) ?_
  iterate 5 refine ok_v (by kernel_rfl) ?_
  exact ok_nil
 replace hS:=SymF.fb hS hF [] [] (by kernel_rfl) (by kernel_rfl)
 replace hG:=hF.gx
 clear hF
 have z3:=hS.fr.size
 refine wp_symQ hS hG hK (fun p4=>[.v 21 (.int .u8 (md:Int)),.c (some 22) (cV (.tuple #[.string str,.int .i64 er])),.v 20 (.tuple #[.string str,.int .i64 er]),.v 23 (.string str),.v 24 (.int .i64 er),.v 8 (.string str),.v 9 (.int .i64 er)]) (fun p4=>[(1,.string s),(4,.bool false),(5,.bool true),(6,.string str),(7,.int .i64 er),(8,.string str),(9,.int .i64 er)]) (by kernel_rfl) (fun _ _=>by kernel_rfl) (fun _=>by kernel_rfl) (fun _=>by kernel_rfl) (fun p4=>?_) (fun p4 W4 T hF hK=>?_)
 ·refine ok_v (by kernel_rfl) ?_
  refine ok_c (fun W cx=>as_v (unhide H2 _ cx.fr)) (by kernel_rfl) ?_
  iterate 5 refine ok_v (by kernel_rfl) ?_
  exact ok_nil
 replace hS:=SymF.fb hS hF [] [] (by kernel_rfl) (by kernel_rfl)
 replace hG:=hF.gx
 clear hF
 have z4:=hS.fr.size
 refine wp_symQ hS hG hK (fun p5=>[.v 26 (.string s),.c (some 27) (cV (.tuple #[.int .u8 (j:Int),.bool true])),.v 25 (.tuple #[.int .u8 (j:Int),.bool true]),.v 28 (.int .u8 (j:Int)),.v 29 (.bool true),.v 10 (.int .u8 (j:Int)),.v 11 (.bool true)]) (fun p5=>[(1,.string s),(4,.bool false),(5,.bool true),(6,.string str),(7,.int .i64 er),(8,.string str),(9,.int .i64 er),(10,.int .u8 (j:Int)),(11,.bool true)]) (by kernel_rfl) (fun _ _=>by kernel_rfl) (fun _=>by kernel_rfl) (fun _=>by kernel_rfl) (fun p5=>?_) (fun p5 W5 T hF hK=>?_)
 ·refine ok_v (by kernel_rfl) ?_
  refine ok_c (fun W cx=>as_v (unhide H3 _ cx.fr)) (by kernel_rfl) ?_
  iterate 5 refine ok_v (by kernel_rfl) ?_
  exact ok_nil
 replace hS:=SymF.fb hS hF [] [] (by kernel_rfl) (by kernel_rfl)
 replace hG:=hF.gx
 clear hF
 have z5:=hS.fr.size
 refine wp_symQ hS hG hK (fun p6=>[.v 31 (.string s),.c (some 32) (cV (.tuple #[.int .u8 (j:Int),.bool true])),.v 30 (.tuple #[.int .u8 (j:Int),.bool true]),.v 33 (.int .u8 (j:Int)),.v 34 (.bool true),.v 12 (.int .u8 (j:Int)),.v 13 (.bool true)]) (fun p6=>[(4,.bool false),(5,.bool true),(6,.string str),(7,.int .i64 er),(8,.string str),(9,.int .i64 er),(10,.int .u8 (j:Int)),(11,.bool true),(12,.int .u8 (j:Int)),(13,.bool true)]) (by kernel_rfl) (fun _ _=>by kernel_rfl) (fun _=>by kernel_rfl) (fun _=>by kernel_rfl) (fun p6=>?_) (fun p6 W6 T hF hK=>?_)
 ·refine ok_v (by kernel_rfl) ?_
  refine ok_c (fun W cx=>as_v (unhide H4 _ cx.fr)) (by kernel_rfl) ?_
  iterate 5 refine ok_v (by kernel_rfl) ?_
  exact ok_nil
 replace hS:=SymF.fb hS hF [] [] (by kernel_rfl) (by kernel_rfl)
 replace hG:=hF.gx
 clear hF
 have z6:=hS.fr.size
 refine wp_symQ hS hG hK (fun p7=>[.v 35 (.bool true),.v 36 (.bool true),.v 37 (.string str),.v 38 (.string str),.v 39 (.bool true),.v 40 (.bool true),.v 41 (.bool true),.v 42 (.int .i64 er),.v 43 (.int .i64 er),.v 44 (.bool true),.v 45 (.bool true),.v 46 (.bool true),.v 47 (.int .u8 (j:Int)),.v 48 (.int .u8 (j:Int)),.v 49 (.bool true),.v 50 (.bool true),.v 51 (.bool true),.v 52 (.bool true),.v 53 (.bool true),.v 54 (.bool true),.v 55 (.bool true),.v 4 (.bool true)]) (fun p7=>[(4,.bool true)]) (by kernel_rfl) (fun _ _=>by kernel_rfl) (fun _=>by kernel_rfl) (fun _=>by kernel_rfl) (fun p7=>?_) (fun p7 W7 T hF hK=>?_)
 ·iterate 4 refine ok_v (by kernel_rfl) ?_
  refine ok_vb (beq_self_eq_true str.toList) (by kernel_rfl) ?_
  iterate 4 refine ok_v (by kernel_rfl) ?_
  refine ok_vb (beq_self_eq_true er) (by kernel_rfl) ?_
  iterate 4 refine ok_v (by kernel_rfl) ?_
  refine ok_vb (beq_self_eq_true (j:Int)) (by kernel_rfl) ?_
  iterate 7 refine ok_v (by kernel_rfl) ?_
  exact ok_nil
 replace hS:=SymF.fb hS hF [] [] (by kernel_rfl) (by kernel_rfl)
 replace hG:=hF.gx
 clear hF
 have z7:=hS.fr.size
 refine wp_ret ?_
 exact sym_end hS hK (.bool true) [] [] (by kernel_rfl) (by kernel_rfl) ⟨rfl,hS.fr⟩
theorem named_false_w (w:World) (md j:Nat) (s str:ByteArray) (er:Int) (hT:Tb w) (hN:Nb5 w) (H1:Hid (∀ W:World,Below w.heap.size w W→Calls Tryz.prog 9 #[.int .u8 (md:Int)] W fun e W'=>e = .returned (.tuple #[.string str,.int .i64 er])∧Below W.heap.size W W')) (H2:Hid (∀ W:World,Below w.heap.size w W→Calls Tryz.prog 10 #[.int .u8 (md:Int)] W fun e W'=>e = .returned (.tuple #[.string str,.int .i64 er])∧Below W.heap.size W W')) (H3:Hid (∀ W:World,Below w.heap.size w W→Calls Tryz.prog 11 #[.string s] W fun e W'=>e = .returned (.tuple #[.int .u8 (j:Int),.bool false])∧Below W.heap.size W W')) (H4:Hid (∀ W:World,Below w.heap.size w W→Calls Tryz.prog 12 #[.string s] W fun e W'=>e = .returned (.tuple #[.int .u8 (j:Int),.bool false])∧Below W.heap.size W W')) :
  Calls Tryz.prog 4 #[.int .u8 (md:Int),.string s] w fun en w'=>en = .returned (.bool true)∧Below w.heap.size w w':=by
 refine calls_sym Tryz.func4 rfl (by kernel_rfl) fun T hK=>?_
 replace hK:Kn T _ [(0,.int .u8 (md:Int)),(1,.string s)]:=hK
 have hS:=Fb.begin w
 have hG:GsAt [] w:=trivial
 refine wp_symQ hS hG hK (fun p1=>[.v 4 (.bool false)]) (fun p1=>[(0,.int .u8 (md:Int)),(1,.string s),(4,.bool false)]) (by kernel_rfl) (fun _ _=>by kernel_rfl) (fun _=>by kernel_rfl) (fun _=>by kernel_rfl) (fun p1=>?_) (fun p1 W1 T hF hK=>?_)
 ·refine ok_v (by kernel_rfl) ?_
  exact ok_nil
 replace hS:=SymF.fb hS hF [] [] (by kernel_rfl) (by kernel_rfl)
 replace hG:=hF.gx
 clear hF
 have z1:=hS.fr.size
 refine wp_symQ hS hG hK (fun p2=>[.c (some 14) (cV (.bool true)),.v 5 (.bool true)]) (fun p2=>[(0,.int .u8 (md:Int)),(1,.string s),(4,.bool false),(5,.bool true)]) (by kernel_rfl) (fun _ _=>by kernel_rfl) (fun _=>by kernel_rfl) (fun _=>by kernel_rfl) (fun p2=>?_) (fun p2 W2 T hF hK=>?_)
 ·refine ok_c (fun W cx=>as_v (salive_is _ (hT.kept cx.fr) (hN.kept cx.fr))) (by kernel_rfl) ?_
  refine ok_v (by kernel_rfl) ?_
  exact ok_nil
 replace hS:=SymF.fb hS hF [] [] (by kernel_rfl) (by kernel_rfl)
 replace hG:=hF.gx
 clear hF
 have z2:=hS.fr.size
 refine wp_symQ hS hG hK (fun p3=>[.v 16 (.int .u8 (md:Int)),.c (some 17) (cV (.tuple #[.string str,.int .i64 er])),.v 15 (.tuple #[.string str,.int .i64 er]),.v 18 (.string str),.v 19 (.int .i64 er),.v 6 (.string str),.v 7 (.int .i64 er)]) (fun p3=>[(0,.int .u8 (md:Int)),(1,.string s),(4,.bool false),(5,.bool true),(6,.string str),(7,.int .i64 er)]) (by kernel_rfl) (fun _ _=>by kernel_rfl) (fun _=>by kernel_rfl) (fun _=>by kernel_rfl) (fun p3=>?_) (fun p3 W3 T hF hK=>?_)
 ·refine ok_v (by kernel_rfl) ?_
  refine ok_c (fun W cx=>as_v (unhide H1 _ cx.fr)) (by kernel_rfl) ?_
  iterate 5 refine ok_v (by kernel_rfl) ?_
  exact ok_nil
 replace hS:=SymF.fb hS hF [] [] (by kernel_rfl) (by kernel_rfl)
 replace hG:=hF.gx
 clear hF
 have z3:=hS.fr.size
 refine wp_symQ hS hG hK (fun p4=>[.v 21 (.int .u8 (md:Int)),.c (some 22) (cV (.tuple #[.string str,.int .i64 er])),.v 20 (.tuple #[.string str,.int .i64 er]),.v 23 (.string str),.v 24 (.int .i64 er),.v 8 (.string str),.v 9 (.int .i64 er)]) (fun p4=>[(1,.string s),(4,.bool false),(5,.bool true),(6,.string str),(7,.int .i64 er),(8,.string str),(9,.int .i64 er)]) (by kernel_rfl) (fun _ _=>by kernel_rfl) (fun _=>by kernel_rfl) (fun _=>by kernel_rfl) (fun p4=>?_) (fun p4 W4 T hF hK=>?_)
 ·refine ok_v (by kernel_rfl) ?_
  refine ok_c (fun W cx=>as_v (unhide H2 _ cx.fr)) (by kernel_rfl) ?_
  iterate 5 refine ok_v (by kernel_rfl) ?_
  exact ok_nil
 replace hS:=SymF.fb hS hF [] [] (by kernel_rfl) (by kernel_rfl)
 replace hG:=hF.gx
 clear hF
 have z4:=hS.fr.size
 refine wp_symQ hS hG hK (fun p5=>[.v 26 (.string s),.c (some 27) (cV (.tuple #[.int .u8 (j:Int),.bool false])),.v 25 (.tuple #[.int .u8 (j:Int),.bool false]),.v 28 (.int .u8 (j:Int)),.v 29 (.bool false),.v 10 (.int .u8 (j:Int)),.v 11 (.bool false)]) (fun p5=>[(1,.string s),(4,.bool false),(5,.bool true),(6,.string str),(7,.int .i64 er),(8,.string str),(9,.int .i64 er),(10,.int .u8 (j:Int)),(11,.bool false)]) (by kernel_rfl) (fun _ _=>by kernel_rfl) (fun _=>by kernel_rfl) (fun _=>by kernel_rfl) (fun p5=>?_) (fun p5 W5 T hF hK=>?_)
 ·refine ok_v (by kernel_rfl) ?_
  refine ok_c (fun W cx=>as_v (unhide H3 _ cx.fr)) (by kernel_rfl) ?_
  iterate 5 refine ok_v (by kernel_rfl) ?_
  exact ok_nil
 replace hS:=SymF.fb hS hF [] [] (by kernel_rfl) (by kernel_rfl)
 replace hG:=hF.gx
 clear hF
 have z5:=hS.fr.size
 refine wp_symQ hS hG hK (fun p6=>[.v 31 (.string s),.c (some 32) (cV (.tuple #[.int .u8 (j:Int),.bool false])),.v 30 (.tuple #[.int .u8 (j:Int),.bool false]),.v 33 (.int .u8 (j:Int)),.v 34 (.bool false),.v 12 (.int .u8 (j:Int)),.v 13 (.bool false)]) (fun p6=>[(4,.bool false),(5,.bool true),(6,.string str),(7,.int .i64 er),(8,.string str),(9,.int .i64 er),(10,.int .u8 (j:Int)),(11,.bool false),(12,.int .u8 (j:Int)),(13,.bool false)]) (by kernel_rfl) (fun _ _=>by kernel_rfl) (fun _=>by kernel_rfl) (fun _=>by kernel_rfl) (fun p6=>?_) (fun p6 W6 T hF hK=>?_)
 ·refine ok_v (by kernel_rfl) ?_
  refine ok_c (fun W cx=>as_v (unhide H4 _ cx.fr)) (by kernel_rfl) ?_
  iterate 5 refine ok_v (by kernel_rfl) ?_
  exact ok_nil
 replace hS:=SymF.fb hS hF [] [] (by kernel_rfl) (by kernel_rfl)
 replace hG:=hF.gx
 clear hF
 have z6:=hS.fr.size
 refine wp_symQ hS hG hK (fun p7=>[.v 35 (.bool true),.v 36 (.bool true),.v 37 (.string str),.v 38 (.string str),.v 39 (.bool true),.v 40 (.bool true),.v 41 (.bool true),.v 42 (.int .i64 er),.v 43 (.int .i64 er),.v 44 (.bool true),.v 45 (.bool true),.v 46 (.bool true),.v 47 (.int .u8 (j:Int)),.v 48 (.int .u8 (j:Int)),.v 49 (.bool true),.v 50 (.bool true),.v 51 (.bool true),.v 52 (.bool false),.v 53 (.bool false),.v 54 (.bool true),.v 55 (.bool true),.v 4 (.bool true)]) (fun p7=>[(4,.bool true)]) (by kernel_rfl) (fun _ _=>by kernel_rfl) (fun _=>by kernel_rfl) (fun _=>by kernel_rfl) (fun p7=>?_) (fun p7 W7 T hF hK=>?_)
 ·iterate 4 refine ok_v (by kernel_rfl) ?_
  refine ok_vb (beq_self_eq_true str.toList) (by kernel_rfl) ?_
  iterate 4 refine ok_v (by kernel_rfl) ?_
  refine ok_vb (beq_self_eq_true er) (by kernel_rfl) ?_
  iterate 4 refine ok_v (by kernel_rfl) ?_
  refine ok_vb (beq_self_eq_true (j:Int)) (by kernel_rfl) ?_
  iterate 7 refine ok_v (by kernel_rfl) ?_
  exact ok_nil
 replace hS:=SymF.fb hS hF [] [] (by kernel_rfl) (by kernel_rfl)
 replace hG:=hF.gx
 clear hF
 have z7:=hS.fr.size
 refine wp_ret ?_
 exact sym_end hS hK (.bool true) [] [] (by kernel_rfl) (by kernel_rfl) ⟨rfl,hS.fr⟩
theorem name_both (md:Nat):∃ (str:ByteArray) (er:Int),∀ w:World,Nb5 w→(Calls Tryz.prog 9 #[.int .u8 (md:Int)] w fun e w'=>e = .returned (.tuple #[.string str,.int .i64 er])∧Below w.heap.size w w')∧(Calls Tryz.prog 10 #[.int .u8 (md:Int)] w fun e w'=>e = .returned (.tuple #[.string str,.int .i64 er])∧Below w.heap.size w w'):=by
 by_cases h:4 < md
 ·exact ⟨_,_,fun w _=>⟨rdname_no md h w,rrname_no md h w⟩⟩
 ·have h5:md = 0∨md = 1∨md = 2∨md = 3∨md = 4:=by omega
  rcases h5 with rfl|rfl|rfl|rfl|rfl
  ·exact ⟨_,_,fun w hN=>⟨rdname_0 w hN,rrname_0 w⟩⟩
  ·exact ⟨_,_,fun w hN=>⟨rdname_1 w hN,rrname_1 w⟩⟩
  ·exact ⟨_,_,fun w hN=>⟨rdname_2 w hN,rrname_2 w⟩⟩
  ·exact ⟨_,_,fun w hN=>⟨rdname_3 w hN,rrname_3 w⟩⟩
  ·exact ⟨_,_,fun w hN=>⟨rdname_4 w hN,rrname_4 w⟩⟩
theorem named_both (s:ByteArray):∃ (j:Nat) (b:Bool),∀ w:World,Nb5 w→(Calls Tryz.prog 11 #[.string s] w fun e w'=>e = .returned (.tuple #[.int .u8 (j:Int),.bool b])∧Below w.heap.size w w')∧(Calls Tryz.prog 12 #[.string s] w fun e w'=>e = .returned (.tuple #[.int .u8 (j:Int),.bool b])∧Below w.heap.size w w'):=by
 cases e0:(([101,118,101,110]:List UInt8) == s.toList) with
 | true=>exact ⟨0,true,fun w hN=>⟨named_0 s w hN e0,rnamed_0 s w e0⟩⟩
 | false=>
  cases e1:(([97,119,97,121]:List UInt8) == s.toList) with
  | true=>exact ⟨1,true,fun w hN=>⟨named_1 s w hN e0 e1,rnamed_1 s w e0 e1⟩⟩
  | false=>
   cases e2:(([122,101,114,111]:List UInt8) == s.toList) with
   | true=>exact ⟨2,true,fun w hN=>⟨named_2 s w hN e0 e1 e2,rnamed_2 s w e0 e1 e2⟩⟩
   | false=>
    cases e3:(([117,112]:List UInt8) == s.toList) with
    | true=>exact ⟨3,true,fun w hN=>⟨named_3 s w hN e0 e1 e2 e3,rnamed_3 s w e0 e1 e2 e3⟩⟩
    | false=>
     cases e4:(([100,111,119,110]:List UInt8) == s.toList) with
     | true=>exact ⟨4,true,fun w hN=>⟨named_4 s w hN e0 e1 e2 e3 e4,rnamed_4 s w e0 e1 e2 e3 e4⟩⟩
     | false=>
      exact ⟨0,false,fun w hN=>⟨named_5 s w hN e0 e1 e2 e3 e4,rnamed_5 s w e0 e1 e2 e3 e4⟩⟩
theorem roundNamed_any (md:Nat) (s:ByteArray) (w:World) (hT:Tb w) (hN:Nb5 w):Calls Tryz.prog 4 #[.int .u8 (md:Int),.string s] w fun e w'=>e = .returned (.bool true)∧Below w.heap.size w w':=by
 obtain ⟨str,er,h1⟩:=name_both md
 obtain ⟨j,b,h2⟩:=named_both s
 cases b
 ·exact named_false_w w md j s str er hT hN (hide fun W hb=>(h1 W (hN.kept hb)).1) (hide fun W hb=>(h1 W (hN.kept hb)).2) (hide fun W hb=>(h2 W (hN.kept hb)).1) (hide fun W hb=>(h2 W (hN.kept hb)).2)
 ·exact named_true_w w md j s str er hT hN (hide fun W hb=>(h1 W (hN.kept hb)).1) (hide fun W hb=>(h1 W (hN.kept hb)).2) (hide fun W hb=>(h2 W (hN.kept hb)).1) (hide fun W hb=>(h2 W (hN.kept hb)).2)
end Go.Proofs.YtcclpafdkgnmiaaGreatDoor
