/- Of what RoundNamesRow stands on: SFrac SRatC SAlive SLawNames. -/
import Derived.Test.YtcclpafdkgnmiaaGreatDoorPbf
import Derived.Test.YtcclpafdkgnmiaaGreatDoorPbg
namespace Go.Proofs.YtcclpafdkgnmiaaGreatDoor
open Go.RowKit
set_option maxHeartbeats 8000000
set_option maxRecDepth 20000
theorem num_new (w:World) (n:Nat) (h0:0 < n) (h1:n < 4294967296):Num (w.alloc (.cells #[.int .u32 (n:Int)] 31)) (some ⟨w.heap.size,0,none⟩) 1 n:=by
 refine ⟨[n],rfl,Or.inr ⟨w.heap.size,0,rfl,fun j hj=>?_⟩,fun x hx=>?_,?_,?_,by omega⟩
 ·have hj0:j = 0:=by simp at hj; omega
  subst hj0
  rw [cell_of_row _ w.heap.size 0 _ _ _ (heap_alloc_new w _)]; rfl
 ·simp at hx; omega
 ·simp [Pl.Norm]; omega
 ·simp [Pl.val]
theorem frac_is (s:Bool) (n d:Nat) (hn:0 < n) (hn2:n < 4294967296) (hd:0 < d) (hd2:d < 4294967296) (hg:Nat.gcd n d = 1) (w:World) :
  Calls Tryz.prog 7 #[.bool s,.int .u32 (n:Int),.int .u32 (d:Int)] w fun en w'=>(∃ a k c a' k' c',en = .returned (.tuple #[.agg #[.bool s,.slice a k c,.slice a' k' c'],.int .i64 0])∧Mine w' w.heap.size a k c n∧Mine w' w.heap.size a' k' c' d)∧Below w.heap.size w w':=by
 have q1:=num_new (w.alloc (.cells #[.bool false,.slice none 0 0,.slice none 0 0] 27)) n hn hn2
 have q2:=num_new ((w.alloc (.cells #[.bool false,.slice none 0 0,.slice none 0 0] 27)).alloc (.cells #[.int .u32 (n:Int)] 31)) d hd hd2
 replace q1:=q1.kept (gr_alloc _ (.cells #[.int .u32 (d:Int)] 31))
 have hS:=(Fs.one w #[.bool false,.slice none 0 0,.slice none 0 0] 27).kept (gr_alloc _ (.cells #[.int .u32 (n:Int)] 31))
 replace hS:=hS.kept (gr_alloc _ (.cells #[.int .u32 (d:Int)] 31))
 simp only [World.size_alloc] at q1 q2
 have hb0:=hS.fr
 have HS:=hide hS
 have H1:=hide q1
 have H2:=hide q2
 clear q1 q2 hS
 go_enter Tryz.func7,Tryz.ntmps7
 go_wp2_with fail
 refine (make_any s _ _ 1 1 1 1 n d _ (unhide H1) (unhide H2) hd).mono ?_
 rintro en w1 ⟨hr,hb1⟩
 rw [hg,Nat.div_one,Nat.div_one] at hr
 rcases hr with ⟨a,k,c,a',k',c',rfl,g1,g2⟩|⟨-,ho⟩
 ·have hS:=(unhide HS).kept hb1
  have hdn:decide (n = 0) = false:=by simp; omega
  rw [hdn]
  have hz:=hb1.size
  have hz0:=hb0.size
  obtain ⟨⟨z0,z1,z2,-⟩,-⟩:=hS.cells
  have Q_:=hS.frozen (b:=w.heap.size) (cs:=#[.bool false,.slice none 0 0,.slice none 0 0]) (t:=27) (by simp)
  have f0:=Q_ 0
  have f1:=Q_ 1
  have f2:=Q_ 2
  clear Q_
  have G1:=hide g1
  have G2:=hide g2
  have HF:=hide hS
  clear g1 g2 hdn hS hb0 hb1 hz hz0 hn hn2 hd hd2
  simp only [RatV,Bool.and_true,Bool.not_false]
  go_wp2
  have hS:=unhide HF
  have e1:=hS.put (b:=w.heap.size) (cs:=#[.bool false,.slice none 0 0,.slice none 0 0]) (t:=27) (by simp) (by omega) 0 (.bool s) [⟨w.heap.size,#[.bool s,.slice none 0 0,.slice none 0 0],27⟩] (by simp)
  have e2:=e1.put (b:=w.heap.size) (cs:=#[.bool s,.slice none 0 0,.slice none 0 0]) (t:=27) (by simp) (by omega) 1 (.slice a k c) [⟨w.heap.size,#[.bool s,.slice a k c,.slice none 0 0],27⟩] (by simp)
  have e3:=e2.put (b:=w.heap.size) (cs:=#[.bool s,.slice a k c,.slice none 0 0]) (t:=27) (by simp) (by omega) 2 (.slice a' k' c') [⟨w.heap.size,#[.bool s,.slice a k c,.slice a' k' c'],27⟩] (by simp)
  have b0:=hS.bx ⟨w.heap.size,#[.bool false,.slice none 0 0,.slice none 0 0],27⟩ (by simp)
  have b1:=e1.bx ⟨w.heap.size,#[.bool s,.slice none 0 0,.slice none 0 0],27⟩ (by simp)
  have b2:=e2.bx ⟨w.heap.size,#[.bool s,.slice a k c,.slice none 0 0],27⟩ (by simp)
  obtain ⟨⟨y0,y1,y2,-⟩,-⟩:=e3.cells
  have ho:w.heap.size≤(((w.alloc (.cells #[.bool false,.slice none 0 0,.slice none 0 0] 27)).alloc (.cells #[.int .u32 (n:Int)] 31)).alloc (.cells #[.int .u32 (d:Int)] 31)).heap.size:=by simp; omega
  exact bodyPost_ret (v:=.tuple #[.agg #[.bool s,.slice a k c,.slice a' k' c'],.int .i64 0]) (by simp [results,Tryz.results7,go_sem,y0,y1,y2]) rfl ⟨⟨a,k,c,a',k',c',rfl,((((unhide G1).put b0 (by simp) 0 _).put b1 (by simp) 1 _).put b2 (by simp) 2 _).mono ho,((((unhide G2).put b0 (by simp) 0 _).put b1 (by simp) 1 _).put b2 (by simp) 2 _).mono ho⟩,e3.fr⟩
 ·have e32:(2:Nat) ^ 32 = 4294967296:=by decide
  rcases ho with ho|ho
  ·exact absurd ho (no_over (K:=32) (by omega) (by omega))
  ·exact absurd ho (no_over (K:=32) (by omega) (by omega))
theorem rchk_ok (s:Bool) (a b:Option Addr) (n c k l m d:Nat) (h0:0 < m) (hd:0 < d) (hg:Nat.gcd m d = 1) (W:World) (h1:Num W a n m) (h2:Num W b k d) :
  Calls Tryz.prog 22 #[.agg #[.bool s,.slice a n c,.slice b k l]] W fun e W'=>e = .returned (.int .i64 0)∧Below W.heap.size W W':=by
 have hk:0 < k:=by have:=h2.zero; omega
 have hn:0 < n:=by have:=h1.zero; omega
 cases s
 ·exact rk_ok_f a n c m b k l d W hk h1 h2 hg
 ·exact rk_ok_t a n c m b k l d W hk hn h1 h2 hg
theorem rat_c (E F B S I md:Nat) (s ng:Bool) (m d z q K bt fl:Nat) (X:Int) (hfo:Fo E F) (hS:S = 2 ^ (F+E)) (hI:I = (2 ^ E - 1) * 2 ^ F) (hB:B = 2 ^ (E - 1) - 1) (hm:md≤4) (h0:0 < m) (hd:0 < d) (hg:Nat.gcd m d = 1) (bm:blen m≤64) (bd:blen d≤64) (hz:sAns m d = 2 ^ z * (2 * q+1)) (hz2:z≤300) (hX:sExp m d+(z:Int) = X) (hK:blen (2 * q+1) = K) (hbt:bitsR S I md s (rowR B F md s (2 * q+1) K X) = bt) (hfl:flagR B F I md s (2 * q+1) K X = fl)
  (a b:Option Addr) (n c k l:Nat) (w:World) (hT:Tb w) (h1:Num w a n m) (h2:Num w b k d) :
  Calls Tryz.prog 8 #[.agg #[.int .i64 (E:Int),.int .i64 (F:Int)],.agg #[.bool s,.slice a n c,.slice b k l],.bool ng,.int .u8 (md:Int)] w fun e w'=>e = .returned (.tuple #[.int .u64 (bt:Int),.int .u8 (fl:Int),.int .i64 0])∧Below w.heap.size w w':=by
 have:=sratio_is (E:=E) (F:=F) (S:=S) (I:=I) (B:=B) (md:=md) ⟨hfo,hS,hI⟩ hB hm ng s a b n c k l m d w hT h1 h2 (by omega) hd (by omega) (by omega) (by omega) (by omega) (hide fun W q1 q2=>rchk_ok s a b n c k l m d h0 hd hg W q1 q2) z (2 * q+1) K X ⟨q,hz⟩ (by omega) (by rw [hz,Nat.mul_div_cancel_left _ (Nat.pow_pos (by omega))]) hX (by rw [← hK]; exact bl_blen _)
 rw [hbt,hfl] at this
 exact this
theorem Mine.limb {w:World} {B:Nat} {a:Option Addr} {n c m:Nat} (h:Mine w B a n c m) (h0:0 < m) (h1:m < 4294967296):n = 1∧∃ b,a = some ⟨b,0,none⟩∧w.cell? ⟨b,0,none⟩ = some (.int .u32 (m:Int)):=by
 have hn:n = 1:=by
  obtain ⟨xs,hl,-,hw,hN,hv,-⟩:=h
  match xs,hl,hw,hN,hv with
  | [],hl,_,_,hv=>simp [Pl.val] at hv; omega
  | [x],hl,_,_,_=>simpa using hl.symm
  | x :: y :: r,hl,hw,hN,hv=>
   exfalso
   have h3:Pl.val (y :: r)≠0:=by
    intro h4
    have:=Pl.norm_lower (xs:=x :: y :: r) hN (by simp)
    simp only [Pl.val] at this hv h4
    have h5:(4294967296:Nat) ^ 1≤4294967296 ^ ((x :: y :: r).length - 1):=Nat.pow_le_pow_right (by omega) (by simp)
    omega
   simp only [Pl.val] at hv h3
   omega
 refine ⟨hn,?_⟩
 subst hn
 obtain ⟨xs,hl,ho,hw,hN,hv,-⟩:=h
 match xs,hl,ho,hv with
 | [x],_,ho,hv=>
  simp [Pl.val] at hv
  subst hv
  rcases ho with ⟨e,-⟩|⟨g,cap,cur,e,hg,hh,-,-,-,hc⟩
  ·cases e
  ·injection e with e1 e2 e3
   refine ⟨g,e1,?_⟩
   rw [cell_of_row w g 0 _ _ _ hh]
   have:=hc 0 (by simp)
   simpa using this
theorem salive_is (w:World) (hT:Tb w) (hN:Nb5 w) :
  Calls Tryz.prog 6 #[] w fun en w'=>en = .returned (.bool true)∧Below w.heap.size w w':=by
 refine calls_sym Tryz.func6 rfl (by kernel_rfl) fun T hK=>?_
 replace hK:Kn T _ []:=hK
 have hS:=Fb.begin w
 have hG:GsAt [] w:=trivial
 refine wp_symQ hS hG hK (fun p1=>[.v 0 (.bool false)]) (fun p1=>[(0,.bool false)]) (by kernel_rfl) (fun _ _=>by kernel_rfl) (fun _=>by kernel_rfl) (fun _=>by kernel_rfl) (fun p1=>?_) (fun p1 W1 T hF hK=>?_)
 ·refine ok_v (by kernel_rfl) ?_
  exact ok_nil
 replace hS:=SymF.fb hS hF [] [] (by kernel_rfl) (by kernel_rfl)
 replace hG:=hF.gx
 clear hF
 have z1:=hS.fr.size
 refine wp_symQ hS hG hK (fun p2=>[.c (some 15) (cH W1.heap.size 1 3 fun x9 y9=>.tuple #[.agg #[.bool true,x9,y9],.int .i64 0]),.v 14 (.tuple #[.agg #[.bool true,.slice (p2 0).A (p2 0).N (p2 0).C,.slice (p2 0).A' (p2 0).N' (p2 0).C'],.int .i64 0]),.v 16 (.agg #[.bool true,.slice (p2 0).A (p2 0).N (p2 0).C,.slice (p2 0).A' (p2 0).N' (p2 0).C']),.v 17 (.int .i64 0),.n 1 #[.bool false,.slice none 0 0,.slice none 0 0] 27,.p 1004 0 [.bool true,.slice (p2 0).A (p2 0).N (p2 0).C,.slice (p2 0).A' (p2 0).N' (p2 0).C'],.v 2 (.int .i64 0)]) (fun p2=>[(0,.bool false),(1,.pointer (some ⟨(p2 4).N,0,none⟩)),(2,.int .i64 0)]) (by kernel_rfl) (fun _ _=>by kernel_rfl) (fun _=>by kernel_rfl) (fun _=>by kernel_rfl) (fun p2=>?_) (fun p2 W2 T hF hK=>?_)
 ·refine ok_c (fun W cx=>as_h cx.hb (frac_is true 1 3 (by decide) (by decide) (by decide) (by decide) (by decide) _)) (by kernel_rfl) ?_
  iterate 3 refine ok_v (by kernel_rfl) ?_
  refine ok_n (fun _=>by kernel_rfl) ?_
  refine ok_P (by kernel_rfl) (by kernel_rfl) (by kernel_rfl) ?_
  refine ok_v (by kernel_rfl) ?_
  exact ok_nil
 replace hS:=SymF.fb hS hF [1004] [⟨(p2 4).N,#[.bool true,.slice (p2 0).A (p2 0).N (p2 0).C,.slice (p2 0).A' (p2 0).N' (p2 0).C'],27,true⟩] (by kernel_rfl) (by kernel_rfl)
 replace hG:GsAt (gM W1.heap.size (p2 0).A (p2 0).N (p2 0).C 1 :: gM W1.heap.size (p2 0).A' (p2 0).N' (p2 0).C' 3 :: _) W2:=⟨And.left (hF.fx 0),And.right (hF.fx 0),hF.gx⟩
 clear hF
 have z2:=hS.fr.size
 refine wp_symQ hS hG hK (fun p3=>[.c (some 19) (cH W2.heap.size 5 2 fun x9 y9=>.tuple #[.agg #[.bool false,x9,y9],.int .i64 0]),.v 18 (.tuple #[.agg #[.bool false,.slice (p3 0).A (p3 0).N (p3 0).C,.slice (p3 0).A' (p3 0).N' (p3 0).C'],.int .i64 0]),.v 20 (.agg #[.bool false,.slice (p3 0).A (p3 0).N (p3 0).C,.slice (p3 0).A' (p3 0).N' (p3 0).C']),.v 21 (.int .i64 0),.n 3 #[.bool false,.slice none 0 0,.slice none 0 0] 27,.p 1004 0 [.bool false,.slice (p3 0).A (p3 0).N (p3 0).C,.slice (p3 0).A' (p3 0).N' (p3 0).C'],.v 4 (.int .i64 0)]) (fun p3=>[(0,.bool false),(1,.pointer (some ⟨(p2 4).N,0,none⟩)),(2,.int .i64 0),(3,.pointer (some ⟨(p3 4).N,0,none⟩)),(4,.int .i64 0)]) (by kernel_rfl) (fun _ _=>by kernel_rfl) (fun _=>by kernel_rfl) (fun _=>by kernel_rfl) (fun p3=>?_) (fun p3 W3 T hF hK=>?_)
 ·refine ok_c (fun W cx=>as_h cx.hb (frac_is false 5 2 (by decide) (by decide) (by decide) (by decide) (by decide) _)) (by kernel_rfl) ?_
  iterate 3 refine ok_v (by kernel_rfl) ?_
  refine ok_n (fun _=>by kernel_rfl) ?_
  refine ok_P (by kernel_rfl) (by kernel_rfl) (by kernel_rfl) ?_
  refine ok_v (by kernel_rfl) ?_
  exact ok_nil
 replace hS:=SymF.fb hS hF [0,1004] [⟨(p2 4).N,#[.bool true,.slice (p2 0).A (p2 0).N (p2 0).C,.slice (p2 0).A' (p2 0).N' (p2 0).C'],27,true⟩,⟨(p3 4).N,#[.bool false,.slice (p3 0).A (p3 0).N (p3 0).C,.slice (p3 0).A' (p3 0).N' (p3 0).C'],27,true⟩] (by kernel_rfl) (by kernel_rfl)
 replace hG:GsAt (gM W2.heap.size (p3 0).A (p3 0).N (p3 0).C 5 :: gM W2.heap.size (p3 0).A' (p3 0).N' (p3 0).C' 2 :: _) W3:=⟨And.left (hF.fx 0),And.right (hF.fx 0),hF.gx⟩
 clear hF
 have z3:=hS.fr.size
 refine wp_symQ hS hG hK (fun p4=>[.v 23 (.agg #[.int .i64 5,.int .i64 10]),.l 24 (.agg #[.bool true,.slice (p2 0).A (p2 0).N (p2 0).C,.slice (p2 0).A' (p2 0).N' (p2 0).C']) 0 0,.c (some 25) (cV (.tuple #[.int .u64 46421,.int .u8 1,.int .i64 0])),.v 22 (.tuple #[.int .u64 46421,.int .u8 1,.int .i64 0]),.v 26 (.int .u64 46421),.v 27 (.int .u8 1),.v 28 (.int .i64 0),.v 5 (.int .u64 46421),.v 6 (.int .u8 1),.v 7 (.int .i64 0)]) (fun p4=>[(0,.bool false),(2,.int .i64 0),(3,.pointer (some ⟨(p3 4).N,0,none⟩)),(4,.int .i64 0),(5,.int .u64 46421),(6,.int .u8 1),(7,.int .i64 0)]) (by kernel_rfl) (fun _ _=>by kernel_rfl) (fun _=>by kernel_rfl) (fun _=>by kernel_rfl) (fun p4=>?_) (fun p4 W4 T hF hK=>?_)
 ·refine ok_v (by kernel_rfl) ?_
  refine ok_L (by kernel_rfl) (by kernel_rfl) (by kernel_rfl) ?_
  refine ok_c (fun W cx=>as_v (rat_c 5 10 15 32768 31744 0 true false 1 3 0 24595658764946068821 66 46421 1 (-67) ⟨by decide,by decide,by decide,by decide⟩ (by decide) (by decide) (by decide) (by decide) (by decide) (by decide) (by decide) (by decide) (by decide) (by kernel_rfl) (by decide) (by kernel_rfl) (by kernel_rfl) (by kernel_rfl) (by kernel_rfl) _ _ _ (p2 0).C _ (p2 0).C' _ (hT.kept cx.fr) (Mine.num cx.G.2.2.1) (Mine.num cx.G.2.2.2.1))) (by kernel_rfl) ?_
  iterate 7 refine ok_v (by kernel_rfl) ?_
  exact ok_nil
 replace hS:=SymF.fb hS hF [1] [⟨(p3 4).N,#[.bool false,.slice (p3 0).A (p3 0).N (p3 0).C,.slice (p3 0).A' (p3 0).N' (p3 0).C'],27,true⟩] (by kernel_rfl) (by kernel_rfl)
 replace hG:=hF.gx
 clear hF
 have z4:=hS.fr.size
 refine wp_symQ hS hG hK (fun p5=>[.l 30 (.agg #[.bool false,.slice (p3 0).A (p3 0).N (p3 0).C,.slice (p3 0).A' (p3 0).N' (p3 0).C']) 0 0,.c (some 31) (cG W4.heap.size 2 fun x9=>.tuple #[.bool false,.agg #[x9],.bool false,.int .i64 0]),.v 29 (.tuple #[.bool false,.agg #[.slice (p5 1).A (p5 1).N (p5 1).C],.bool false,.int .i64 0]),.v 32 (.bool false),.v 33 (.agg #[.slice (p5 1).A (p5 1).N (p5 1).C]),.v 34 (.bool false),.v 35 (.int .i64 0),.n 9 #[.slice none 0 0] 25,.v 8 (.bool false),.p 1007 0 [.slice (p5 1).A (p5 1).N (p5 1).C],.v 10 (.bool false),.v 11 (.int .i64 0)]) (fun p5=>[(0,.bool false),(2,.int .i64 0),(4,.int .i64 0),(5,.int .u64 46421),(6,.int .u8 1),(7,.int .i64 0),(8,.bool false),(9,.pointer (some ⟨(p5 7).N,0,none⟩)),(10,.bool false),(11,.int .i64 0)]) (by kernel_rfl) (fun _ _=>by kernel_rfl) (fun _=>by kernel_rfl) (fun _=>by kernel_rfl) (fun p5=>?_) (fun p5 W5 T hF hK=>?_)
 ·refine ok_L (by kernel_rfl) (by kernel_rfl) (by kernel_rfl) ?_
  refine ok_c (fun W cx=>as_g cx.hb (whole_near _ _ (p3 0).C 5 _ _ (p3 0).C' 2 0 (by decide) 1 2 false (by decide) (by decide) (by decide) (by decide) (by decide) (farther_any 0 false false 0 (by decide) (Or.inr (Or.inl rfl))) _ (Mine.num cx.G.1) (Mine.num cx.G.2.1) (by decide) (hide fun W9 hb9=>rchk_ok false _ _ _ _ _ _ 5 2 (by decide) (by decide) (by decide) W9 (Num.kept (Mine.num cx.G.1) hb9) (Num.kept (Mine.num cx.G.2.1) hb9)))) (by kernel_rfl) ?_
  iterate 5 refine ok_v (by kernel_rfl) ?_
  refine ok_n (fun _=>by kernel_rfl) ?_
  refine ok_v (by kernel_rfl) ?_
  refine ok_P (by kernel_rfl) (by kernel_rfl) (by kernel_rfl) ?_
  iterate 2 refine ok_v (by kernel_rfl) ?_
  exact ok_nil
 replace hS:=SymF.fb hS hF [1007] [⟨(p5 7).N,#[.slice (p5 1).A (p5 1).N (p5 1).C],25,true⟩] (by kernel_rfl) (by kernel_rfl)
 replace hG:GsAt (gM W4.heap.size (p5 1).A (p5 1).N (p5 1).C 2 :: _) W5:=⟨hF.fx 1,hF.gx⟩
 clear hF
 have z5:=hS.fr.size
 refine wp_symQ hS hG hK (fun p6=>[.c (some 37) (cV (.tuple #[.int .u8 1,.bool true])),.v 36 (.tuple #[.int .u8 1,.bool true]),.v 38 (.int .u8 1),.v 39 (.bool true),.v 12 (.int .u8 1),.v 13 (.bool true)]) (fun p6=>[(0,.bool false),(2,.int .i64 0),(4,.int .i64 0),(5,.int .u64 46421),(6,.int .u8 1),(7,.int .i64 0),(8,.bool false),(9,.pointer (some ⟨(p5 7).N,0,none⟩)),(10,.bool false),(11,.int .i64 0),(12,.int .u8 1),(13,.bool true)]) (by kernel_rfl) (fun _ _=>by kernel_rfl) (fun _=>by kernel_rfl) (fun _=>by kernel_rfl) (fun p6=>?_) (fun p6 W6 T hF hK=>?_)
 ·refine ok_c (fun W cx=>as_v (named_1 ⟨#[97,119,97,121]⟩ _ (hN.kept cx.fr) (by kernel_rfl) (by kernel_rfl))) (by kernel_rfl) ?_
  iterate 5 refine ok_v (by kernel_rfl) ?_
  exact ok_nil
 replace hS:=SymF.fb hS hF [0] [⟨(p5 7).N,#[.slice (p5 1).A (p5 1).N (p5 1).C],25,true⟩] (by kernel_rfl) (by kernel_rfl)
 replace hG:=hF.gx
 clear hF
 have z6:=hS.fr.size
 obtain ⟨eN,b9,eA,hc9⟩:=Mine.limb hG.1 (by decide) (by decide)
 rw [eA,eN] at hS
 replace hG:GsAt (gL b9 0 2 :: _) W6:=⟨hc9,hG⟩
 refine wp_symQ hS hG hK (fun p7=>[.v 40 (.int .i64 0),.v 41 (.bool true),.v 42 (.bool true),.v 43 (.int .i64 0),.v 44 (.bool true),.v 45 (.bool true),.v 46 (.bool true),.v 47 (.int .i64 0),.v 48 (.bool true),.v 49 (.bool true),.v 50 (.bool true),.v 51 (.int .i64 0),.v 52 (.bool true),.v 53 (.bool true),.v 54 (.bool true),.v 55 (.int .u64 46421),.v 56 (.bool true),.v 57 (.bool true),.v 58 (.bool true),.v 59 (.int .u8 1),.v 60 (.bool true),.v 61 (.bool true),.v 62 (.bool true),.v 63 (.bool false),.v 64 (.bool true),.v 65 (.bool true),.v 66 (.bool true),.v 67 (.bool false),.v 68 (.bool true),.v 69 (.bool true),.v 70 (.bool true),.v 71 (.pointer (some ⟨(p5 7).N,0,none⟩)),.l 72 (.slice (some ⟨b9,0,none⟩) 1 (p5 1).C) 0 0,.v 73 (.int .i64 1),.v 74 (.bool true),.v 75 (.bool true),.v 76 (.bool true),.v 77 (.pointer (some ⟨(p5 7).N,0,none⟩)),.l 78 (.slice (some ⟨b9,0,none⟩) 1 (p5 1).C) 0 0,.v 79 (.pointer (some ⟨b9,0,none⟩)),.g 80 (.int .u32 2) [.int .u32 2] [.ld ⟨b9,0,none⟩ (.int .u32 2)],.v 81 (.bool true),.v 82 (.bool true),.v 83 (.bool true),.v 84 (.int .u8 1),.v 85 (.bool true),.v 86 (.bool true),.v 87 (.bool true),.v 88 (.bool true),.v 89 (.bool true),.v 0 (.bool true)]) (fun p7=>[(0,.bool true)]) (by kernel_rfl) (fun _ _=>by kernel_rfl) (fun _=>by kernel_rfl) (fun _=>by kernel_rfl) (fun p7=>?_) (fun p7 W7 T hF hK=>?_)
 ·iterate 32 refine ok_v (by kernel_rfl) ?_
  refine ok_L (by kernel_rfl) (by kernel_rfl) (by kernel_rfl) ?_
  iterate 5 refine ok_v (by kernel_rfl) ?_
  refine ok_L (by kernel_rfl) (by kernel_rfl) (by kernel_rfl) ?_
  refine ok_v (by kernel_rfl) ?_
  refine ok_g (fun W cx=>⟨⟨cx.G.1,trivial⟩,rfl⟩) (by kernel_rfl) ?_
  iterate 10 refine ok_v (by kernel_rfl) ?_
  exact ok_nil
 replace hS:=SymF.fb hS hF [] [] (by kernel_rfl) (by kernel_rfl)
 replace hG:=hF.gx
 clear hF
 have z7:=hS.fr.size
 refine wp_ret ?_
 exact sym_end hS hK (.bool true) [] [] (by kernel_rfl) (by kernel_rfl) ⟨rfl,hS.fr⟩
theorem sscaled_bad (w:World) (E F:Int) (s ng:Bool) (a b:Option Addr) (n c k l md:Nat) (hf:E < 2∨11 < E∨F < 1∨52 < F) :
  Calls Tryz.prog 18 #[.agg #[.int .i64 E,.int .i64 F],.agg #[.bool s,.slice a n c,.slice b k l],.int .i64 0,.bool ng,.int .u8 (md:Int)] w fun en w'=>en = .returned (.tuple #[.int .u64 0,.int .u8 0,.int .i64 5])∧Below w.heap.size w w':=by
 refine calls_sym Tryz.func18 rfl (by kernel_rfl) fun T hK=>?_
 replace hK:Kn T _ [(0,.agg #[.int .i64 E,.int .i64 F]),(1,.agg #[.bool s,.slice a n c,.slice b k l]),(2,.int .i64 0),(3,.bool ng),(4,.int .u8 (md:Int))]:=hK
 have hS:=Fb.begin w
 have hG:GsAt [] w:=trivial
 refine wp_symQ hS hG hK (fun p1=>[.n 5 #[.int .i64 E,.int .i64 F] 33,.n 6 #[.bool s,.slice a n c,.slice b k l] 27,.v 10 (.int .u64 0),.v 11 (.int .u8 0),.v 12 (.int .i64 0)]) (fun p1=>[(2,.int .i64 0),(3,.bool ng),(4,.int .u8 (md:Int)),(5,.pointer (some ⟨(p1 0).N,0,none⟩)),(6,.pointer (some ⟨(p1 1).N,0,none⟩)),(10,.int .u64 0),(11,.int .u8 0),(12,.int .i64 0)]) (by kernel_rfl) (fun _ _=>by kernel_rfl) (fun _=>by kernel_rfl) (fun _=>by kernel_rfl) (fun p1=>?_) (fun p1 W1 T hF hK=>?_)
 ·iterate 2 refine ok_n (fun _=>by kernel_rfl) ?_
  iterate 3 refine ok_v (by kernel_rfl) ?_
  exact ok_nil
 replace hS:=SymF.fb hS hF [1000,1001] [⟨(p1 0).N,#[.int .i64 E,.int .i64 F],33,true⟩,⟨(p1 1).N,#[.bool s,.slice a n c,.slice b k l],27,true⟩] (by kernel_rfl) (by kernel_rfl)
 replace hG:=hF.gx
 clear hF
 have z1:=hS.fr.size
 refine wp_seq ?_
 refine wp_symQ hS hG hK (fun p2=>[.l 17 (.agg #[.int .i64 E,.int .i64 F]) 0 0,.c (some 18) (cV (.int .i64 5)),.v 13 (.int .i64 5)]) (fun p2=>[(2,.int .i64 0),(3,.bool ng),(4,.int .u8 (md:Int)),(5,.pointer (some ⟨(p1 0).N,0,none⟩)),(6,.pointer (some ⟨(p1 1).N,0,none⟩)),(10,.int .u64 0),(11,.int .u8 0),(12,.int .i64 0),(13,.int .i64 5)]) (by kernel_rfl) (fun _ _=>by kernel_rfl) (fun _=>by kernel_rfl) (fun _=>by kernel_rfl) (fun p2=>?_) (fun p2 W2 T hF hK=>?_)
 ·refine ok_L (by kernel_rfl) (by kernel_rfl) (by kernel_rfl) ?_
  refine ok_c (fun W cx=>as_v (check_bad _ _ _ hf)) (by kernel_rfl) ?_
  refine ok_v (by kernel_rfl) ?_
  exact ok_nil
 replace hS:=SymF.fb hS hF [0,1] [⟨(p1 0).N,#[.int .i64 E,.int .i64 F],33,true⟩,⟨(p1 1).N,#[.bool s,.slice a n c,.slice b k l],27,true⟩] (by kernel_rfl) (by kernel_rfl)
 replace hG:=hF.gx
 clear hF
 have z2:=hS.fr.size
 refine wp_symQ hS hG hK (fun p3=>[.v 19 (.int .i64 5),.v 20 (.bool true)]) (fun p3=>[(2,.int .i64 0),(3,.bool ng),(4,.int .u8 (md:Int)),(5,.pointer (some ⟨(p1 0).N,0,none⟩)),(6,.pointer (some ⟨(p1 1).N,0,none⟩)),(10,.int .u64 0),(11,.int .u8 0),(12,.int .i64 0),(13,.int .i64 5),(20,.bool true)]) (by kernel_rfl) (fun _ _=>by kernel_rfl) (fun _=>by kernel_rfl) (fun _=>by kernel_rfl) (fun p3=>?_) (fun p3 W3 T hF hK=>?_)
 ·iterate 2 refine ok_v (by kernel_rfl) ?_
  exact ok_nil
 replace hS:=SymF.fb hS hF [0,1] [⟨(p1 0).N,#[.int .i64 E,.int .i64 F],33,true⟩,⟨(p1 1).N,#[.bool s,.slice a n c,.slice b k l],27,true⟩] (by kernel_rfl) (by kernel_rfl)
 replace hG:=hF.gx
 clear hF
 have z3:=hS.fr.size
 refine wp_cond_true (hK.ev 20 (by kernel_rfl) _ (by kernel_rfl)) ?_
 refine wp_symQ hS hG hK (fun p4=>[.v 21 (.int .i64 5),.v 10 (.int .u64 0),.v 11 (.int .u8 0),.v 12 (.int .i64 5)]) (fun p4=>[(2,.int .i64 0),(3,.bool ng),(4,.int .u8 (md:Int)),(5,.pointer (some ⟨(p1 0).N,0,none⟩)),(6,.pointer (some ⟨(p1 1).N,0,none⟩)),(10,.int .u64 0),(11,.int .u8 0),(12,.int .i64 5),(20,.bool true)]) (by kernel_rfl) (fun _ _=>by kernel_rfl) (fun _=>by kernel_rfl) (fun _=>by kernel_rfl) (fun p4=>?_) (fun p4 W4 T hF hK=>?_)
 ·iterate 4 refine ok_v (by kernel_rfl) ?_
  exact ok_nil
 replace hS:=SymF.fb hS hF [0,1] [⟨(p1 0).N,#[.int .i64 E,.int .i64 F],33,true⟩,⟨(p1 1).N,#[.bool s,.slice a n c,.slice b k l],27,true⟩] (by kernel_rfl) (by kernel_rfl)
 replace hG:=hF.gx
 clear hF
 have z4:=hS.fr.size
 refine wp_ret ?_
 refine then_r ?_
 exact sym_end hS hK (.tuple #[.int .u64 0,.int .u8 0,.int .i64 5]) [] [] (by kernel_rfl) (by kernel_rfl) ⟨rfl,hS.fr⟩
theorem sratio_bad (w:World) (E F:Int) (s ng:Bool) (a b:Option Addr) (n c k l md:Nat) (hf:E < 2∨11 < E∨F < 1∨52 < F) :
  Calls Tryz.prog 8 #[.agg #[.int .i64 E,.int .i64 F],.agg #[.bool s,.slice a n c,.slice b k l],.bool ng,.int .u8 (md:Int)] w fun en w'=>en = .returned (.tuple #[.int .u64 0,.int .u8 0,.int .i64 5])∧Below w.heap.size w w':=by
 refine calls_sym Tryz.func8 rfl (by kernel_rfl) fun T hK=>?_
 replace hK:Kn T _ [(0,.agg #[.int .i64 E,.int .i64 F]),(1,.agg #[.bool s,.slice a n c,.slice b k l]),(2,.bool ng),(3,.int .u8 (md:Int))]:=hK
 have hS:=Fb.begin w
 have hG:GsAt [] w:=trivial
 refine wp_symQ hS hG hK (fun p1=>[.n 4 #[.int .i64 E,.int .i64 F] 33,.n 5 #[.bool s,.slice a n c,.slice b k l] 27,.v 8 (.int .u64 0),.v 9 (.int .u8 0),.v 10 (.int .i64 0)]) (fun p1=>[(2,.bool ng),(3,.int .u8 (md:Int)),(4,.pointer (some ⟨(p1 0).N,0,none⟩)),(5,.pointer (some ⟨(p1 1).N,0,none⟩)),(8,.int .u64 0),(9,.int .u8 0),(10,.int .i64 0)]) (by kernel_rfl) (fun _ _=>by kernel_rfl) (fun _=>by kernel_rfl) (fun _=>by kernel_rfl) (fun p1=>?_) (fun p1 W1 T hF hK=>?_)
 ·iterate 2 refine ok_n (fun _=>by kernel_rfl) ?_
  iterate 3 refine ok_v (by kernel_rfl) ?_
  exact ok_nil
 replace hS:=SymF.fb hS hF [1000,1001] [⟨(p1 0).N,#[.int .i64 E,.int .i64 F],33,true⟩,⟨(p1 1).N,#[.bool s,.slice a n c,.slice b k l],27,true⟩] (by kernel_rfl) (by kernel_rfl)
 replace hG:=hF.gx
 clear hF
 have z1:=hS.fr.size
 refine wp_symQ hS hG hK (fun p2=>[.l 11 (.agg #[.int .i64 E,.int .i64 F]) 0 0,.l 12 (.agg #[.bool s,.slice a n c,.slice b k l]) 1 0,.v 13 (.bool ng),.v 14 (.int .u8 (md:Int)),.c (some 15) (cV (.tuple #[.int .u64 0,.int .u8 0,.int .i64 5])),.v 16 (.int .u64 0),.v 17 (.int .u8 0),.v 18 (.int .i64 5),.v 8 (.int .u64 0),.v 9 (.int .u8 0),.v 10 (.int .i64 5)]) (fun p2=>[(8,.int .u64 0),(9,.int .u8 0),(10,.int .i64 5)]) (by kernel_rfl) (fun _ _=>by kernel_rfl) (fun _=>by kernel_rfl) (fun _=>by kernel_rfl) (fun p2=>?_) (fun p2 W2 T hF hK=>?_)
 ·iterate 2 refine ok_L (by kernel_rfl) (by kernel_rfl) (by kernel_rfl) ?_
  iterate 2 refine ok_v (by kernel_rfl) ?_
  refine ok_c (fun W cx=>as_v (sscaled_bad _ E F s ng a b n c k l md hf)) (by kernel_rfl) ?_
  iterate 6 refine ok_v (by kernel_rfl) ?_
  exact ok_nil
 replace hS:=SymF.fb hS hF [] [] (by kernel_rfl) (by kernel_rfl)
 replace hG:=hF.gx
 clear hF
 have z2:=hS.fr.size
 refine wp_ret ?_
 exact sym_end hS hK (.tuple #[.int .u64 0,.int .u8 0,.int .i64 5]) [] [] (by kernel_rfl) (by kernel_rfl) ⟨rfl,hS.fr⟩
theorem roundNames_any (w:World) (hT:Tb w) (hN:Nb5 w) :
  Calls Tryz.prog 3 #[] w fun en w'=>en = .returned (.bool true)∧Below w.heap.size w w':=by
 refine calls_sym Tryz.func3 rfl (by kernel_rfl) fun T hK=>?_
 replace hK:Kn T _ []:=hK
 have hS:=Fb.begin w
 have hG:GsAt [] w:=trivial
 refine wp_symQ hS hG hK (fun p1=>[.v 0 (.bool false)]) (fun p1=>[(0,.bool false)]) (by kernel_rfl) (fun _ _=>by kernel_rfl) (fun _=>by kernel_rfl) (fun _=>by kernel_rfl) (fun p1=>?_) (fun p1 W1 T hF hK=>?_)
 ·refine ok_v (by kernel_rfl) ?_
  exact ok_nil
 replace hS:=SymF.fb hS hF [] [] (by kernel_rfl) (by kernel_rfl)
 replace hG:=hF.gx
 clear hF
 have z1:=hS.fr.size
 refine wp_symQ hS hG hK (fun p2=>[.c (some 34) (cV (.bool true)),.v 1 (.bool true)]) (fun p2=>[(0,.bool false),(1,.bool true)]) (by kernel_rfl) (fun _ _=>by kernel_rfl) (fun _=>by kernel_rfl) (fun _=>by kernel_rfl) (fun p2=>?_) (fun p2 W2 T hF hK=>?_)
 ·refine ok_c (fun W cx=>as_v (salive_is _ (hT.kept cx.fr) (hN.kept cx.fr))) (by kernel_rfl) ?_
  refine ok_v (by kernel_rfl) ?_
  exact ok_nil
 replace hS:=SymF.fb hS hF [] [] (by kernel_rfl) (by kernel_rfl)
 replace hG:=hF.gx
 clear hF
 have z2:=hS.fr.size
 refine wp_symQ hS hG hK (fun p3=>[.c (some 36) (cH W2.heap.size 1 2 fun x9 y9=>.tuple #[.agg #[.bool false,x9,y9],.int .i64 0]),.v 35 (.tuple #[.agg #[.bool false,.slice (p3 0).A (p3 0).N (p3 0).C,.slice (p3 0).A' (p3 0).N' (p3 0).C'],.int .i64 0]),.v 37 (.agg #[.bool false,.slice (p3 0).A (p3 0).N (p3 0).C,.slice (p3 0).A' (p3 0).N' (p3 0).C']),.v 38 (.int .i64 0),.n 2 #[.bool false,.slice none 0 0,.slice none 0 0] 27,.p 1004 0 [.bool false,.slice (p3 0).A (p3 0).N (p3 0).C,.slice (p3 0).A' (p3 0).N' (p3 0).C'],.v 3 (.int .i64 0)]) (fun p3=>[(0,.bool false),(1,.bool true),(2,.pointer (some ⟨(p3 4).N,0,none⟩))]) (by kernel_rfl) (fun _ _=>by kernel_rfl) (fun _=>by kernel_rfl) (fun _=>by kernel_rfl) (fun p3=>?_) (fun p3 W3 T hF hK=>?_)
 ·refine ok_c (fun W cx=>as_h cx.hb (frac_is false 1 2 (by decide) (by decide) (by decide) (by decide) (by decide) _)) (by kernel_rfl) ?_
  iterate 3 refine ok_v (by kernel_rfl) ?_
  refine ok_n (fun _=>by kernel_rfl) ?_
  refine ok_P (by kernel_rfl) (by kernel_rfl) (by kernel_rfl) ?_
  refine ok_v (by kernel_rfl) ?_
  exact ok_nil
 replace hS:=SymF.fb hS hF [1004] [⟨(p3 4).N,#[.bool false,.slice (p3 0).A (p3 0).N (p3 0).C,.slice (p3 0).A' (p3 0).N' (p3 0).C'],27,true⟩] (by kernel_rfl) (by kernel_rfl)
 replace hG:GsAt (gM W2.heap.size (p3 0).A (p3 0).N (p3 0).C 1 :: gM W2.heap.size (p3 0).A' (p3 0).N' (p3 0).C' 2 :: _) W3:=⟨And.left (hF.fx 0),And.right (hF.fx 0),hF.gx⟩
 clear hF
 have z3:=hS.fr.size
 refine wp_seq ?_
 refine wp_symQ hS hG hK (fun p4=>[.v 39 (.agg #[.int .i64 1,.int .i64 5]),.v 40 (.agg #[.int .i64 12,.int .i64 5]),.v 41 (.agg #[.int .i64 5,.int .i64 0]),.v 42 (.agg #[.int .i64 5,.int .i64 53]),.v 43 (.agg #[.int .i64 0,.int .i64 0]),.v 44 (.agg #[.int .i64 (-5),.int .i64 (-5)]),.n 45 #[.int .i64 1,.int .i64 5,.int .i64 12,.int .i64 5,.int .i64 5,.int .i64 0,.int .i64 5,.int .i64 53,.int .i64 0,.int .i64 0,.int .i64 (-5),.int .i64 (-5)] (6000000+33),.v 46 (.int .i64 6),.v 47 (.int .i64 0)]) (fun p4=>[(0,.bool false),(1,.bool true),(2,.pointer (some ⟨(p3 4).N,0,none⟩)),(45,.slice (some ⟨(p4 6).N,0,none⟩) 6 6),(46,.int .i64 6),(47,.int .i64 0)]) (by kernel_rfl) (fun _ _=>by kernel_rfl) (fun _=>by kernel_rfl) (fun _=>by kernel_rfl) (fun p4=>?_) (fun p4 W4 T hF hK=>?_)
 ·iterate 6 refine ok_v (by kernel_rfl) ?_
  refine ok_n (fun _=>by kernel_rfl) ?_
  iterate 2 refine ok_v (by kernel_rfl) ?_
  exact ok_nil
 replace hS:=SymF.fb hS hF [0,1006] [⟨(p3 4).N,#[.bool false,.slice (p3 0).A (p3 0).N (p3 0).C,.slice (p3 0).A' (p3 0).N' (p3 0).C'],27,true⟩,⟨(p4 6).N,#[.int .i64 1,.int .i64 5,.int .i64 12,.int .i64 5,.int .i64 5,.int .i64 0,.int .i64 5,.int .i64 53,.int .i64 0,.int .i64 0,.int .i64 (-5),.int .i64 (-5)],33,true⟩] (by kernel_rfl) (by kernel_rfl)
 replace hG:=hF.gx
 clear hF
 have z4:=hS.fr.size
 refine wp_block ?_
 refine wp_loop_rounds 7 ?_
 refine rounds_s ?_
 refine wp_symQ hS hG hK (fun p5=>[.v 48 (.bool true)]) (fun p5=>[(0,.bool false),(1,.bool true),(2,.pointer (some ⟨(p3 4).N,0,none⟩)),(45,.slice (some ⟨(p4 6).N,0,none⟩) 6 6),(46,.int .i64 6),(47,.int .i64 0),(48,.bool true)]) (by kernel_rfl) (fun _ _=>by kernel_rfl) (fun _=>by kernel_rfl) (fun _=>by kernel_rfl) (fun p5=>?_) (fun p5 W5 T hF hK=>?_)
 ·refine ok_v (by kernel_rfl) ?_
  exact ok_nil
 replace hS:=SymF.fb hS hF [0,1] [⟨(p3 4).N,#[.bool false,.slice (p3 0).A (p3 0).N (p3 0).C,.slice (p3 0).A' (p3 0).N' (p3 0).C'],27,true⟩,⟨(p4 6).N,#[.int .i64 1,.int .i64 5,.int .i64 12,.int .i64 5,.int .i64 5,.int .i64 0,.int .i64 5,.int .i64 53,.int .i64 0,.int .i64 0,.int .i64 (-5),.int .i64 (-5)],33,true⟩] (by kernel_rfl) (by kernel_rfl)
 replace hG:=hF.gx
 clear hF
 have z5:=hS.fr.size
 refine wp_seq ?_
 refine wp_cond_true (hK.ev 48 (by kernel_rfl) _ (by kernel_rfl)) ?_
 refine wp_skip ?_
 refine then_n ?_
 refine wp_seq ?_
 refine wp_block ?_
 refine wp_symQ hS hG hK (fun p6=>[.v 49 (.pointer (some ⟨(p4 6).N,0,none⟩)),.l 50 (.agg #[.int .i64 1,.int .i64 5]) 1 0,.n 5 #[.int .i64 0,.int .i64 0] 33,.p 1002 0 [.int .i64 1,.int .i64 5]]) (fun p6=>[(0,.bool false),(1,.bool true),(2,.pointer (some ⟨(p3 4).N,0,none⟩)),(5,.pointer (some ⟨(p6 2).N,0,none⟩)),(45,.slice (some ⟨(p4 6).N,0,none⟩) 6 6),(46,.int .i64 6),(47,.int .i64 0),(48,.bool true),(49,.pointer (some ⟨(p4 6).N,0,none⟩)),(50,.agg #[.int .i64 1,.int .i64 5])]) (by kernel_rfl) (fun _ _=>by kernel_rfl) (fun _=>by kernel_rfl) (fun _=>by kernel_rfl) (fun p6=>?_) (fun p6 W6 T hF hK=>?_)
 ·refine ok_v (by kernel_rfl) ?_
  refine ok_L (by kernel_rfl) (by kernel_rfl) (by kernel_rfl) ?_
  refine ok_n (fun _=>by kernel_rfl) ?_
  refine ok_P (by kernel_rfl) (by kernel_rfl) (by kernel_rfl) ?_
  exact ok_nil
 replace hS:=SymF.fb hS hF [0,1,1002] [⟨(p3 4).N,#[.bool false,.slice (p3 0).A (p3 0).N (p3 0).C,.slice (p3 0).A' (p3 0).N' (p3 0).C'],27,true⟩,⟨(p4 6).N,#[.int .i64 1,.int .i64 5,.int .i64 12,.int .i64 5,.int .i64 5,.int .i64 0,.int .i64 5,.int .i64 53,.int .i64 0,.int .i64 0,.int .i64 (-5),.int .i64 (-5)],33,true⟩,⟨(p6 2).N,#[.int .i64 1,.int .i64 5],33,true⟩] (by kernel_rfl) (by kernel_rfl)
 replace hG:=hF.gx
 clear hF
 have z6:=hS.fr.size
 refine wp_symQ hS hG hK (fun p7=>[.l 52 (.agg #[.int .i64 1,.int .i64 5]) 2 0,.l 53 (.agg #[.bool false,.slice (p3 0).A (p3 0).N (p3 0).C,.slice (p3 0).A' (p3 0).N' (p3 0).C']) 0 0,.c (some 54) (cV (.tuple #[.int .u64 0,.int .u8 0,.int .i64 5])),.v 51 (.tuple #[.int .u64 0,.int .u8 0,.int .i64 5]),.v 55 (.int .u64 0),.v 56 (.int .u8 0),.v 57 (.int .i64 5),.v 6 (.int .u64 0),.v 7 (.int .u8 0),.v 8 (.int .i64 5)]) (fun p7=>[(0,.bool false),(1,.bool true),(2,.pointer (some ⟨(p3 4).N,0,none⟩)),(5,.pointer (some ⟨(p6 2).N,0,none⟩)),(8,.int .i64 5),(45,.slice (some ⟨(p4 6).N,0,none⟩) 6 6),(46,.int .i64 6),(47,.int .i64 0),(48,.bool true),(49,.pointer (some ⟨(p4 6).N,0,none⟩)),(50,.agg #[.int .i64 1,.int .i64 5]),(51,.tuple #[.int .u64 0,.int .u8 0,.int .i64 5]),(52,.agg #[.int .i64 1,.int .i64 5]),(53,.agg #[.bool false,.slice (p3 0).A (p3 0).N (p3 0).C,.slice (p3 0).A' (p3 0).N' (p3 0).C']),(54,.tuple #[.int .u64 0,.int .u8 0,.int .i64 5]),(55,.int .u64 0),(56,.int .u8 0),(57,.int .i64 5)]) (by kernel_rfl) (fun _ _=>by kernel_rfl) (fun _=>by kernel_rfl) (fun _=>by kernel_rfl) (fun p7=>?_) (fun p7 W7 T hF hK=>?_)
 ·iterate 2 refine ok_L (by kernel_rfl) (by kernel_rfl) (by kernel_rfl) ?_
  refine ok_c (fun W cx=>as_v (sratio_bad _ (1) (5) false false (p3 0).A (p3 0).A' (p3 0).N (p3 0).C (p3 0).N' (p3 0).C' 9 (by decide))) (by kernel_rfl) ?_
  iterate 7 refine ok_v (by kernel_rfl) ?_
  exact ok_nil
 replace hS:=SymF.fb hS hF [0,1,2] [⟨(p3 4).N,#[.bool false,.slice (p3 0).A (p3 0).N (p3 0).C,.slice (p3 0).A' (p3 0).N' (p3 0).C'],27,true⟩,⟨(p4 6).N,#[.int .i64 1,.int .i64 5,.int .i64 12,.int .i64 5,.int .i64 5,.int .i64 0,.int .i64 5,.int .i64 53,.int .i64 0,.int .i64 0,.int .i64 (-5),.int .i64 (-5)],33,true⟩,⟨(p6 2).N,#[.int .i64 1,.int .i64 5],33,true⟩] (by kernel_rfl) (by kernel_rfl)
 replace hG:=hF.gx
 clear hF
 have z7:=hS.fr.size
 refine wp_symQ hS hG hK (fun p8=>[.v 58 (.int .i64 5),.v 59 (.bool false)]) (fun p8=>[(0,.bool false),(1,.bool true),(2,.pointer (some ⟨(p3 4).N,0,none⟩)),(5,.pointer (some ⟨(p6 2).N,0,none⟩)),(8,.int .i64 5),(45,.slice (some ⟨(p4 6).N,0,none⟩) 6 6),(46,.int .i64 6),(47,.int .i64 0),(48,.bool true),(49,.pointer (some ⟨(p4 6).N,0,none⟩)),(50,.agg #[.int .i64 1,.int .i64 5]),(51,.tuple #[.int .u64 0,.int .u8 0,.int .i64 5]),(52,.agg #[.int .i64 1,.int .i64 5]),(53,.agg #[.bool false,.slice (p3 0).A (p3 0).N (p3 0).C,.slice (p3 0).A' (p3 0).N' (p3 0).C']),(54,.tuple #[.int .u64 0,.int .u8 0,.int .i64 5]),(55,.int .u64 0),(56,.int .u8 0),(57,.int .i64 5),(58,.int .i64 5),(59,.bool false)]) (by kernel_rfl) (fun _ _=>by kernel_rfl) (fun _=>by kernel_rfl) (fun _=>by kernel_rfl) (fun p8=>?_) (fun p8 W8 T hF hK=>?_)
 ·iterate 2 refine ok_v (by kernel_rfl) ?_
  exact ok_nil
 replace hS:=SymF.fb hS hF [0,1,2] [⟨(p3 4).N,#[.bool false,.slice (p3 0).A (p3 0).N (p3 0).C,.slice (p3 0).A' (p3 0).N' (p3 0).C'],27,true⟩,⟨(p4 6).N,#[.int .i64 1,.int .i64 5,.int .i64 12,.int .i64 5,.int .i64 5,.int .i64 0,.int .i64 5,.int .i64 53,.int .i64 0,.int .i64 0,.int .i64 (-5),.int .i64 (-5)],33,true⟩,⟨(p6 2).N,#[.int .i64 1,.int .i64 5],33,true⟩] (by kernel_rfl) (by kernel_rfl)
 replace hG:=hF.gx
 clear hF
 have z8:=hS.fr.size
 refine wp_cond_false (hK.ev 59 (by kernel_rfl) _ (by kernel_rfl)) ?_
 refine wp_skip ?_
 refine inb_n ?_
 refine then_n ?_
 refine wp_symG hS hG hK (fun p9=>[.v 60 (.int .i64 1),.v 47 (.int .i64 1)]) (fun p9=>[(0,.bool false),(1,.bool true),(2,.pointer (some ⟨(p3 4).N,0,none⟩)),(5,.pointer (some ⟨(p6 2).N,0,none⟩)),(8,.int .i64 5),(45,.slice (some ⟨(p4 6).N,0,none⟩) 6 6),(46,.int .i64 6),(47,.int .i64 1),(48,.bool true),(49,.pointer (some ⟨(p4 6).N,0,none⟩)),(50,.agg #[.int .i64 1,.int .i64 5]),(51,.tuple #[.int .u64 0,.int .u8 0,.int .i64 5]),(52,.agg #[.int .i64 1,.int .i64 5]),(53,.agg #[.bool false,.slice (p3 0).A (p3 0).N (p3 0).C,.slice (p3 0).A' (p3 0).N' (p3 0).C']),(54,.tuple #[.int .u64 0,.int .u8 0,.int .i64 5]),(55,.int .u64 0),(56,.int .u8 0),(57,.int .i64 5),(58,.int .i64 5),(59,.bool false),(60,.int .i64 1)]) (by kernel_rfl) (fun _ _=>by kernel_rfl) (fun _=>by kernel_rfl) (fun _=>by kernel_rfl) (fun p9=>?_) (fun p9 W9 T hF hK=>?_)
 ·iterate 2 refine ok_v (by kernel_rfl) ?_
  exact ok_nil
 replace hS:=SymF.fb hS hF [0,1,2] [⟨(p3 4).N,#[.bool false,.slice (p3 0).A (p3 0).N (p3 0).C,.slice (p3 0).A' (p3 0).N' (p3 0).C'],27,true⟩,⟨(p4 6).N,#[.int .i64 1,.int .i64 5,.int .i64 12,.int .i64 5,.int .i64 5,.int .i64 0,.int .i64 5,.int .i64 53,.int .i64 0,.int .i64 0,.int .i64 (-5),.int .i64 (-5)],33,true⟩,⟨(p6 2).N,#[.int .i64 1,.int .i64 5],33,true⟩] (by kernel_rfl) (by kernel_rfl)
 replace hG:=hF.gx
 clear hF
 have z9:=hS.fr.size
 refine then_n ?_
 refine rounds_s ?_
 refine wp_symQ hS hG hK (fun p10=>[.v 48 (.bool true)]) (fun p10=>[(0,.bool false),(1,.bool true),(2,.pointer (some ⟨(p3 4).N,0,none⟩)),(5,.pointer (some ⟨(p6 2).N,0,none⟩)),(8,.int .i64 5),(45,.slice (some ⟨(p4 6).N,0,none⟩) 6 6),(46,.int .i64 6),(47,.int .i64 1),(48,.bool true),(49,.pointer (some ⟨(p4 6).N,0,none⟩)),(50,.agg #[.int .i64 1,.int .i64 5]),(51,.tuple #[.int .u64 0,.int .u8 0,.int .i64 5]),(52,.agg #[.int .i64 1,.int .i64 5]),(53,.agg #[.bool false,.slice (p3 0).A (p3 0).N (p3 0).C,.slice (p3 0).A' (p3 0).N' (p3 0).C']),(54,.tuple #[.int .u64 0,.int .u8 0,.int .i64 5]),(55,.int .u64 0),(56,.int .u8 0),(57,.int .i64 5),(58,.int .i64 5),(59,.bool false),(60,.int .i64 1)]) (by kernel_rfl) (fun _ _=>by kernel_rfl) (fun _=>by kernel_rfl) (fun _=>by kernel_rfl) (fun p10=>?_) (fun p10 W10 T hF hK=>?_)
 ·refine ok_v (by kernel_rfl) ?_
  exact ok_nil
 replace hS:=SymF.fb hS hF [0,1,2] [⟨(p3 4).N,#[.bool false,.slice (p3 0).A (p3 0).N (p3 0).C,.slice (p3 0).A' (p3 0).N' (p3 0).C'],27,true⟩,⟨(p4 6).N,#[.int .i64 1,.int .i64 5,.int .i64 12,.int .i64 5,.int .i64 5,.int .i64 0,.int .i64 5,.int .i64 53,.int .i64 0,.int .i64 0,.int .i64 (-5),.int .i64 (-5)],33,true⟩,⟨(p6 2).N,#[.int .i64 1,.int .i64 5],33,true⟩] (by kernel_rfl) (by kernel_rfl)
 replace hG:=hF.gx
 clear hF
 have z10:=hS.fr.size
 refine wp_seq ?_
 refine wp_cond_true (hK.ev 48 (by kernel_rfl) _ (by kernel_rfl)) ?_
 refine wp_skip ?_
 refine then_n ?_
 refine wp_seq ?_
 refine wp_block ?_
 refine wp_symQ hS hG hK (fun p11=>[.v 49 (.pointer (some ⟨(p4 6).N,2,none⟩)),.l 50 (.agg #[.int .i64 12,.int .i64 5]) 1 2,.n 5 #[.int .i64 0,.int .i64 0] 33,.p 1002 0 [.int .i64 12,.int .i64 5]]) (fun p11=>[(0,.bool false),(1,.bool true),(2,.pointer (some ⟨(p3 4).N,0,none⟩)),(5,.pointer (some ⟨(p11 2).N,0,none⟩)),(8,.int .i64 5),(45,.slice (some ⟨(p4 6).N,0,none⟩) 6 6),(46,.int .i64 6),(47,.int .i64 1),(48,.bool true),(49,.pointer (some ⟨(p4 6).N,2,none⟩)),(50,.agg #[.int .i64 12,.int .i64 5]),(51,.tuple #[.int .u64 0,.int .u8 0,.int .i64 5]),(52,.agg #[.int .i64 1,.int .i64 5]),(53,.agg #[.bool false,.slice (p3 0).A (p3 0).N (p3 0).C,.slice (p3 0).A' (p3 0).N' (p3 0).C']),(54,.tuple #[.int .u64 0,.int .u8 0,.int .i64 5]),(55,.int .u64 0),(56,.int .u8 0),(57,.int .i64 5),(58,.int .i64 5),(59,.bool false),(60,.int .i64 1)]) (by kernel_rfl) (fun _ _=>by kernel_rfl) (fun _=>by kernel_rfl) (fun _=>by kernel_rfl) (fun p11=>?_) (fun p11 W11 T hF hK=>?_)
 ·refine ok_v (by kernel_rfl) ?_
  refine ok_L (by kernel_rfl) (by kernel_rfl) (by kernel_rfl) ?_
  refine ok_n (fun _=>by kernel_rfl) ?_
  refine ok_P (by kernel_rfl) (by kernel_rfl) (by kernel_rfl) ?_
  exact ok_nil
 replace hS:=SymF.fb hS hF [0,1,1002] [⟨(p3 4).N,#[.bool false,.slice (p3 0).A (p3 0).N (p3 0).C,.slice (p3 0).A' (p3 0).N' (p3 0).C'],27,true⟩,⟨(p4 6).N,#[.int .i64 1,.int .i64 5,.int .i64 12,.int .i64 5,.int .i64 5,.int .i64 0,.int .i64 5,.int .i64 53,.int .i64 0,.int .i64 0,.int .i64 (-5),.int .i64 (-5)],33,true⟩,⟨(p11 2).N,#[.int .i64 12,.int .i64 5],33,true⟩] (by kernel_rfl) (by kernel_rfl)
 replace hG:=hF.gx
 clear hF
 have z11:=hS.fr.size
 refine wp_symQ hS hG hK (fun p12=>[.l 52 (.agg #[.int .i64 12,.int .i64 5]) 2 0,.l 53 (.agg #[.bool false,.slice (p3 0).A (p3 0).N (p3 0).C,.slice (p3 0).A' (p3 0).N' (p3 0).C']) 0 0,.c (some 54) (cV (.tuple #[.int .u64 0,.int .u8 0,.int .i64 5])),.v 51 (.tuple #[.int .u64 0,.int .u8 0,.int .i64 5]),.v 55 (.int .u64 0),.v 56 (.int .u8 0),.v 57 (.int .i64 5),.v 6 (.int .u64 0),.v 7 (.int .u8 0),.v 8 (.int .i64 5)]) (fun p12=>[(0,.bool false),(1,.bool true),(2,.pointer (some ⟨(p3 4).N,0,none⟩)),(5,.pointer (some ⟨(p11 2).N,0,none⟩)),(8,.int .i64 5),(45,.slice (some ⟨(p4 6).N,0,none⟩) 6 6),(46,.int .i64 6),(47,.int .i64 1),(48,.bool true),(49,.pointer (some ⟨(p4 6).N,2,none⟩)),(50,.agg #[.int .i64 12,.int .i64 5]),(51,.tuple #[.int .u64 0,.int .u8 0,.int .i64 5]),(52,.agg #[.int .i64 12,.int .i64 5]),(53,.agg #[.bool false,.slice (p3 0).A (p3 0).N (p3 0).C,.slice (p3 0).A' (p3 0).N' (p3 0).C']),(54,.tuple #[.int .u64 0,.int .u8 0,.int .i64 5]),(55,.int .u64 0),(56,.int .u8 0),(57,.int .i64 5),(58,.int .i64 5),(59,.bool false),(60,.int .i64 1)]) (by kernel_rfl) (fun _ _=>by kernel_rfl) (fun _=>by kernel_rfl) (fun _=>by kernel_rfl) (fun p12=>?_) (fun p12 W12 T hF hK=>?_)
 ·iterate 2 refine ok_L (by kernel_rfl) (by kernel_rfl) (by kernel_rfl) ?_
  refine ok_c (fun W cx=>as_v (sratio_bad _ (12) (5) false false (p3 0).A (p3 0).A' (p3 0).N (p3 0).C (p3 0).N' (p3 0).C' 9 (by decide))) (by kernel_rfl) ?_
  iterate 7 refine ok_v (by kernel_rfl) ?_
  exact ok_nil
 replace hS:=SymF.fb hS hF [0,1,2] [⟨(p3 4).N,#[.bool false,.slice (p3 0).A (p3 0).N (p3 0).C,.slice (p3 0).A' (p3 0).N' (p3 0).C'],27,true⟩,⟨(p4 6).N,#[.int .i64 1,.int .i64 5,.int .i64 12,.int .i64 5,.int .i64 5,.int .i64 0,.int .i64 5,.int .i64 53,.int .i64 0,.int .i64 0,.int .i64 (-5),.int .i64 (-5)],33,true⟩,⟨(p11 2).N,#[.int .i64 12,.int .i64 5],33,true⟩] (by kernel_rfl) (by kernel_rfl)
 replace hG:=hF.gx
 clear hF
 have z12:=hS.fr.size
 refine wp_symQ hS hG hK (fun p13=>[.v 58 (.int .i64 5),.v 59 (.bool false)]) (fun p13=>[(0,.bool false),(1,.bool true),(2,.pointer (some ⟨(p3 4).N,0,none⟩)),(5,.pointer (some ⟨(p11 2).N,0,none⟩)),(8,.int .i64 5),(45,.slice (some ⟨(p4 6).N,0,none⟩) 6 6),(46,.int .i64 6),(47,.int .i64 1),(48,.bool true),(49,.pointer (some ⟨(p4 6).N,2,none⟩)),(50,.agg #[.int .i64 12,.int .i64 5]),(51,.tuple #[.int .u64 0,.int .u8 0,.int .i64 5]),(52,.agg #[.int .i64 12,.int .i64 5]),(53,.agg #[.bool false,.slice (p3 0).A (p3 0).N (p3 0).C,.slice (p3 0).A' (p3 0).N' (p3 0).C']),(54,.tuple #[.int .u64 0,.int .u8 0,.int .i64 5]),(55,.int .u64 0),(56,.int .u8 0),(57,.int .i64 5),(58,.int .i64 5),(59,.bool false),(60,.int .i64 1)]) (by kernel_rfl) (fun _ _=>by kernel_rfl) (fun _=>by kernel_rfl) (fun _=>by kernel_rfl) (fun p13=>?_) (fun p13 W13 T hF hK=>?_)
 ·iterate 2 refine ok_v (by kernel_rfl) ?_
  exact ok_nil
 replace hS:=SymF.fb hS hF [0,1,2] [⟨(p3 4).N,#[.bool false,.slice (p3 0).A (p3 0).N (p3 0).C,.slice (p3 0).A' (p3 0).N' (p3 0).C'],27,true⟩,⟨(p4 6).N,#[.int .i64 1,.int .i64 5,.int .i64 12,.int .i64 5,.int .i64 5,.int .i64 0,.int .i64 5,.int .i64 53,.int .i64 0,.int .i64 0,.int .i64 (-5),.int .i64 (-5)],33,true⟩,⟨(p11 2).N,#[.int .i64 12,.int .i64 5],33,true⟩] (by kernel_rfl) (by kernel_rfl)
 replace hG:=hF.gx
 clear hF
 have z13:=hS.fr.size
 refine wp_cond_false (hK.ev 59 (by kernel_rfl) _ (by kernel_rfl)) ?_
 refine wp_skip ?_
 refine inb_n ?_
 refine then_n ?_
 refine wp_symG hS hG hK (fun p14=>[.v 60 (.int .i64 2),.v 47 (.int .i64 2)]) (fun p14=>[(0,.bool false),(1,.bool true),(2,.pointer (some ⟨(p3 4).N,0,none⟩)),(5,.pointer (some ⟨(p11 2).N,0,none⟩)),(8,.int .i64 5),(45,.slice (some ⟨(p4 6).N,0,none⟩) 6 6),(46,.int .i64 6),(47,.int .i64 2),(48,.bool true),(49,.pointer (some ⟨(p4 6).N,2,none⟩)),(50,.agg #[.int .i64 12,.int .i64 5]),(51,.tuple #[.int .u64 0,.int .u8 0,.int .i64 5]),(52,.agg #[.int .i64 12,.int .i64 5]),(53,.agg #[.bool false,.slice (p3 0).A (p3 0).N (p3 0).C,.slice (p3 0).A' (p3 0).N' (p3 0).C']),(54,.tuple #[.int .u64 0,.int .u8 0,.int .i64 5]),(55,.int .u64 0),(56,.int .u8 0),(57,.int .i64 5),(58,.int .i64 5),(59,.bool false),(60,.int .i64 2)]) (by kernel_rfl) (fun _ _=>by kernel_rfl) (fun _=>by kernel_rfl) (fun _=>by kernel_rfl) (fun p14=>?_) (fun p14 W14 T hF hK=>?_)
 ·iterate 2 refine ok_v (by kernel_rfl) ?_
  exact ok_nil
 replace hS:=SymF.fb hS hF [0,1,2] [⟨(p3 4).N,#[.bool false,.slice (p3 0).A (p3 0).N (p3 0).C,.slice (p3 0).A' (p3 0).N' (p3 0).C'],27,true⟩,⟨(p4 6).N,#[.int .i64 1,.int .i64 5,.int .i64 12,.int .i64 5,.int .i64 5,.int .i64 0,.int .i64 5,.int .i64 53,.int .i64 0,.int .i64 0,.int .i64 (-5),.int .i64 (-5)],33,true⟩,⟨(p11 2).N,#[.int .i64 12,.int .i64 5],33,true⟩] (by kernel_rfl) (by kernel_rfl)
 replace hG:=hF.gx
 clear hF
 have z14:=hS.fr.size
 refine then_n ?_
 refine rounds_s ?_
 refine wp_symQ hS hG hK (fun p15=>[.v 48 (.bool true)]) (fun p15=>[(0,.bool false),(1,.bool true),(2,.pointer (some ⟨(p3 4).N,0,none⟩)),(5,.pointer (some ⟨(p11 2).N,0,none⟩)),(8,.int .i64 5),(45,.slice (some ⟨(p4 6).N,0,none⟩) 6 6),(46,.int .i64 6),(47,.int .i64 2),(48,.bool true),(49,.pointer (some ⟨(p4 6).N,2,none⟩)),(50,.agg #[.int .i64 12,.int .i64 5]),(51,.tuple #[.int .u64 0,.int .u8 0,.int .i64 5]),(52,.agg #[.int .i64 12,.int .i64 5]),(53,.agg #[.bool false,.slice (p3 0).A (p3 0).N (p3 0).C,.slice (p3 0).A' (p3 0).N' (p3 0).C']),(54,.tuple #[.int .u64 0,.int .u8 0,.int .i64 5]),(55,.int .u64 0),(56,.int .u8 0),(57,.int .i64 5),(58,.int .i64 5),(59,.bool false),(60,.int .i64 2)]) (by kernel_rfl) (fun _ _=>by kernel_rfl) (fun _=>by kernel_rfl) (fun _=>by kernel_rfl) (fun p15=>?_) (fun p15 W15 T hF hK=>?_)
 ·refine ok_v (by kernel_rfl) ?_
  exact ok_nil
 replace hS:=SymF.fb hS hF [0,1,2] [⟨(p3 4).N,#[.bool false,.slice (p3 0).A (p3 0).N (p3 0).C,.slice (p3 0).A' (p3 0).N' (p3 0).C'],27,true⟩,⟨(p4 6).N,#[.int .i64 1,.int .i64 5,.int .i64 12,.int .i64 5,.int .i64 5,.int .i64 0,.int .i64 5,.int .i64 53,.int .i64 0,.int .i64 0,.int .i64 (-5),.int .i64 (-5)],33,true⟩,⟨(p11 2).N,#[.int .i64 12,.int .i64 5],33,true⟩] (by kernel_rfl) (by kernel_rfl)
 replace hG:=hF.gx
 clear hF
 have z15:=hS.fr.size
 refine wp_seq ?_
 refine wp_cond_true (hK.ev 48 (by kernel_rfl) _ (by kernel_rfl)) ?_
 refine wp_skip ?_
 refine then_n ?_
 refine wp_seq ?_
 refine wp_block ?_
 refine wp_symQ hS hG hK (fun p16=>[.v 49 (.pointer (some ⟨(p4 6).N,4,none⟩)),.l 50 (.agg #[.int .i64 5,.int .i64 0]) 1 4,.n 5 #[.int .i64 0,.int .i64 0] 33,.p 1002 0 [.int .i64 5,.int .i64 0]]) (fun p16=>[(0,.bool false),(1,.bool true),(2,.pointer (some ⟨(p3 4).N,0,none⟩)),(5,.pointer (some ⟨(p16 2).N,0,none⟩)),(8,.int .i64 5),(45,.slice (some ⟨(p4 6).N,0,none⟩) 6 6),(46,.int .i64 6),(47,.int .i64 2),(48,.bool true),(49,.pointer (some ⟨(p4 6).N,4,none⟩)),(50,.agg #[.int .i64 5,.int .i64 0]),(51,.tuple #[.int .u64 0,.int .u8 0,.int .i64 5]),(52,.agg #[.int .i64 12,.int .i64 5]),(53,.agg #[.bool false,.slice (p3 0).A (p3 0).N (p3 0).C,.slice (p3 0).A' (p3 0).N' (p3 0).C']),(54,.tuple #[.int .u64 0,.int .u8 0,.int .i64 5]),(55,.int .u64 0),(56,.int .u8 0),(57,.int .i64 5),(58,.int .i64 5),(59,.bool false),(60,.int .i64 2)]) (by kernel_rfl) (fun _ _=>by kernel_rfl) (fun _=>by kernel_rfl) (fun _=>by kernel_rfl) (fun p16=>?_) (fun p16 W16 T hF hK=>?_)
 ·refine ok_v (by kernel_rfl) ?_
  refine ok_L (by kernel_rfl) (by kernel_rfl) (by kernel_rfl) ?_
  refine ok_n (fun _=>by kernel_rfl) ?_
  refine ok_P (by kernel_rfl) (by kernel_rfl) (by kernel_rfl) ?_
  exact ok_nil
 replace hS:=SymF.fb hS hF [0,1,1002] [⟨(p3 4).N,#[.bool false,.slice (p3 0).A (p3 0).N (p3 0).C,.slice (p3 0).A' (p3 0).N' (p3 0).C'],27,true⟩,⟨(p4 6).N,#[.int .i64 1,.int .i64 5,.int .i64 12,.int .i64 5,.int .i64 5,.int .i64 0,.int .i64 5,.int .i64 53,.int .i64 0,.int .i64 0,.int .i64 (-5),.int .i64 (-5)],33,true⟩,⟨(p16 2).N,#[.int .i64 5,.int .i64 0],33,true⟩] (by kernel_rfl) (by kernel_rfl)
 replace hG:=hF.gx
 clear hF
 have z16:=hS.fr.size
 refine wp_symQ hS hG hK (fun p17=>[.l 52 (.agg #[.int .i64 5,.int .i64 0]) 2 0,.l 53 (.agg #[.bool false,.slice (p3 0).A (p3 0).N (p3 0).C,.slice (p3 0).A' (p3 0).N' (p3 0).C']) 0 0,.c (some 54) (cV (.tuple #[.int .u64 0,.int .u8 0,.int .i64 5])),.v 51 (.tuple #[.int .u64 0,.int .u8 0,.int .i64 5]),.v 55 (.int .u64 0),.v 56 (.int .u8 0),.v 57 (.int .i64 5),.v 6 (.int .u64 0),.v 7 (.int .u8 0),.v 8 (.int .i64 5)]) (fun p17=>[(0,.bool false),(1,.bool true),(2,.pointer (some ⟨(p3 4).N,0,none⟩)),(5,.pointer (some ⟨(p16 2).N,0,none⟩)),(8,.int .i64 5),(45,.slice (some ⟨(p4 6).N,0,none⟩) 6 6),(46,.int .i64 6),(47,.int .i64 2),(48,.bool true),(49,.pointer (some ⟨(p4 6).N,4,none⟩)),(50,.agg #[.int .i64 5,.int .i64 0]),(51,.tuple #[.int .u64 0,.int .u8 0,.int .i64 5]),(52,.agg #[.int .i64 5,.int .i64 0]),(53,.agg #[.bool false,.slice (p3 0).A (p3 0).N (p3 0).C,.slice (p3 0).A' (p3 0).N' (p3 0).C']),(54,.tuple #[.int .u64 0,.int .u8 0,.int .i64 5]),(55,.int .u64 0),(56,.int .u8 0),(57,.int .i64 5),(58,.int .i64 5),(59,.bool false),(60,.int .i64 2)]) (by kernel_rfl) (fun _ _=>by kernel_rfl) (fun _=>by kernel_rfl) (fun _=>by kernel_rfl) (fun p17=>?_) (fun p17 W17 T hF hK=>?_)
 ·iterate 2 refine ok_L (by kernel_rfl) (by kernel_rfl) (by kernel_rfl) ?_
  refine ok_c (fun W cx=>as_v (sratio_bad _ (5) (0) false false (p3 0).A (p3 0).A' (p3 0).N (p3 0).C (p3 0).N' (p3 0).C' 9 (by decide))) (by kernel_rfl) ?_
  iterate 7 refine ok_v (by kernel_rfl) ?_
  exact ok_nil
 replace hS:=SymF.fb hS hF [0,1,2] [⟨(p3 4).N,#[.bool false,.slice (p3 0).A (p3 0).N (p3 0).C,.slice (p3 0).A' (p3 0).N' (p3 0).C'],27,true⟩,⟨(p4 6).N,#[.int .i64 1,.int .i64 5,.int .i64 12,.int .i64 5,.int .i64 5,.int .i64 0,.int .i64 5,.int .i64 53,.int .i64 0,.int .i64 0,.int .i64 (-5),.int .i64 (-5)],33,true⟩,⟨(p16 2).N,#[.int .i64 5,.int .i64 0],33,true⟩] (by kernel_rfl) (by kernel_rfl)
 replace hG:=hF.gx
 clear hF
 have z17:=hS.fr.size
 refine wp_symQ hS hG hK (fun p18=>[.v 58 (.int .i64 5),.v 59 (.bool false)]) (fun p18=>[(0,.bool false),(1,.bool true),(2,.pointer (some ⟨(p3 4).N,0,none⟩)),(5,.pointer (some ⟨(p16 2).N,0,none⟩)),(8,.int .i64 5),(45,.slice (some ⟨(p4 6).N,0,none⟩) 6 6),(46,.int .i64 6),(47,.int .i64 2),(48,.bool true),(49,.pointer (some ⟨(p4 6).N,4,none⟩)),(50,.agg #[.int .i64 5,.int .i64 0]),(51,.tuple #[.int .u64 0,.int .u8 0,.int .i64 5]),(52,.agg #[.int .i64 5,.int .i64 0]),(53,.agg #[.bool false,.slice (p3 0).A (p3 0).N (p3 0).C,.slice (p3 0).A' (p3 0).N' (p3 0).C']),(54,.tuple #[.int .u64 0,.int .u8 0,.int .i64 5]),(55,.int .u64 0),(56,.int .u8 0),(57,.int .i64 5),(58,.int .i64 5),(59,.bool false),(60,.int .i64 2)]) (by kernel_rfl) (fun _ _=>by kernel_rfl) (fun _=>by kernel_rfl) (fun _=>by kernel_rfl) (fun p18=>?_) (fun p18 W18 T hF hK=>?_)
 ·iterate 2 refine ok_v (by kernel_rfl) ?_
  exact ok_nil
 replace hS:=SymF.fb hS hF [0,1,2] [⟨(p3 4).N,#[.bool false,.slice (p3 0).A (p3 0).N (p3 0).C,.slice (p3 0).A' (p3 0).N' (p3 0).C'],27,true⟩,⟨(p4 6).N,#[.int .i64 1,.int .i64 5,.int .i64 12,.int .i64 5,.int .i64 5,.int .i64 0,.int .i64 5,.int .i64 53,.int .i64 0,.int .i64 0,.int .i64 (-5),.int .i64 (-5)],33,true⟩,⟨(p16 2).N,#[.int .i64 5,.int .i64 0],33,true⟩] (by kernel_rfl) (by kernel_rfl)
 replace hG:=hF.gx
 clear hF
 have z18:=hS.fr.size
 refine wp_cond_false (hK.ev 59 (by kernel_rfl) _ (by kernel_rfl)) ?_
 refine wp_skip ?_
 refine inb_n ?_
 refine then_n ?_
 refine wp_symG hS hG hK (fun p19=>[.v 60 (.int .i64 3),.v 47 (.int .i64 3)]) (fun p19=>[(0,.bool false),(1,.bool true),(2,.pointer (some ⟨(p3 4).N,0,none⟩)),(5,.pointer (some ⟨(p16 2).N,0,none⟩)),(8,.int .i64 5),(45,.slice (some ⟨(p4 6).N,0,none⟩) 6 6),(46,.int .i64 6),(47,.int .i64 3),(48,.bool true),(49,.pointer (some ⟨(p4 6).N,4,none⟩)),(50,.agg #[.int .i64 5,.int .i64 0]),(51,.tuple #[.int .u64 0,.int .u8 0,.int .i64 5]),(52,.agg #[.int .i64 5,.int .i64 0]),(53,.agg #[.bool false,.slice (p3 0).A (p3 0).N (p3 0).C,.slice (p3 0).A' (p3 0).N' (p3 0).C']),(54,.tuple #[.int .u64 0,.int .u8 0,.int .i64 5]),(55,.int .u64 0),(56,.int .u8 0),(57,.int .i64 5),(58,.int .i64 5),(59,.bool false),(60,.int .i64 3)]) (by kernel_rfl) (fun _ _=>by kernel_rfl) (fun _=>by kernel_rfl) (fun _=>by kernel_rfl) (fun p19=>?_) (fun p19 W19 T hF hK=>?_)
 ·iterate 2 refine ok_v (by kernel_rfl) ?_
  exact ok_nil
 replace hS:=SymF.fb hS hF [0,1,2] [⟨(p3 4).N,#[.bool false,.slice (p3 0).A (p3 0).N (p3 0).C,.slice (p3 0).A' (p3 0).N' (p3 0).C'],27,true⟩,⟨(p4 6).N,#[.int .i64 1,.int .i64 5,.int .i64 12,.int .i64 5,.int .i64 5,.int .i64 0,.int .i64 5,.int .i64 53,.int .i64 0,.int .i64 0,.int .i64 (-5),.int .i64 (-5)],33,true⟩,⟨(p16 2).N,#[.int .i64 5,.int .i64 0],33,true⟩] (by kernel_rfl) (by kernel_rfl)
 replace hG:=hF.gx
 clear hF
 have z19:=hS.fr.size
 refine then_n ?_
 refine rounds_s ?_
 refine wp_symQ hS hG hK (fun p20=>[.v 48 (.bool true)]) (fun p20=>[(0,.bool false),(1,.bool true),(2,.pointer (some ⟨(p3 4).N,0,none⟩)),(5,.pointer (some ⟨(p16 2).N,0,none⟩)),(8,.int .i64 5),(45,.slice (some ⟨(p4 6).N,0,none⟩) 6 6),(46,.int .i64 6),(47,.int .i64 3),(48,.bool true),(49,.pointer (some ⟨(p4 6).N,4,none⟩)),(50,.agg #[.int .i64 5,.int .i64 0]),(51,.tuple #[.int .u64 0,.int .u8 0,.int .i64 5]),(52,.agg #[.int .i64 5,.int .i64 0]),(53,.agg #[.bool false,.slice (p3 0).A (p3 0).N (p3 0).C,.slice (p3 0).A' (p3 0).N' (p3 0).C']),(54,.tuple #[.int .u64 0,.int .u8 0,.int .i64 5]),(55,.int .u64 0),(56,.int .u8 0),(57,.int .i64 5),(58,.int .i64 5),(59,.bool false),(60,.int .i64 3)]) (by kernel_rfl) (fun _ _=>by kernel_rfl) (fun _=>by kernel_rfl) (fun _=>by kernel_rfl) (fun p20=>?_) (fun p20 W20 T hF hK=>?_)
 ·refine ok_v (by kernel_rfl) ?_
  exact ok_nil
 replace hS:=SymF.fb hS hF [0,1,2] [⟨(p3 4).N,#[.bool false,.slice (p3 0).A (p3 0).N (p3 0).C,.slice (p3 0).A' (p3 0).N' (p3 0).C'],27,true⟩,⟨(p4 6).N,#[.int .i64 1,.int .i64 5,.int .i64 12,.int .i64 5,.int .i64 5,.int .i64 0,.int .i64 5,.int .i64 53,.int .i64 0,.int .i64 0,.int .i64 (-5),.int .i64 (-5)],33,true⟩,⟨(p16 2).N,#[.int .i64 5,.int .i64 0],33,true⟩] (by kernel_rfl) (by kernel_rfl)
 replace hG:=hF.gx
 clear hF
 have z20:=hS.fr.size
 refine wp_seq ?_
 refine wp_cond_true (hK.ev 48 (by kernel_rfl) _ (by kernel_rfl)) ?_
 refine wp_skip ?_
 refine then_n ?_
 refine wp_seq ?_
 refine wp_block ?_
 refine wp_symQ hS hG hK (fun p21=>[.v 49 (.pointer (some ⟨(p4 6).N,6,none⟩)),.l 50 (.agg #[.int .i64 5,.int .i64 53]) 1 6,.n 5 #[.int .i64 0,.int .i64 0] 33,.p 1002 0 [.int .i64 5,.int .i64 53]]) (fun p21=>[(0,.bool false),(1,.bool true),(2,.pointer (some ⟨(p3 4).N,0,none⟩)),(5,.pointer (some ⟨(p21 2).N,0,none⟩)),(8,.int .i64 5),(45,.slice (some ⟨(p4 6).N,0,none⟩) 6 6),(46,.int .i64 6),(47,.int .i64 3),(48,.bool true),(49,.pointer (some ⟨(p4 6).N,6,none⟩)),(50,.agg #[.int .i64 5,.int .i64 53]),(51,.tuple #[.int .u64 0,.int .u8 0,.int .i64 5]),(52,.agg #[.int .i64 5,.int .i64 0]),(53,.agg #[.bool false,.slice (p3 0).A (p3 0).N (p3 0).C,.slice (p3 0).A' (p3 0).N' (p3 0).C']),(54,.tuple #[.int .u64 0,.int .u8 0,.int .i64 5]),(55,.int .u64 0),(56,.int .u8 0),(57,.int .i64 5),(58,.int .i64 5),(59,.bool false),(60,.int .i64 3)]) (by kernel_rfl) (fun _ _=>by kernel_rfl) (fun _=>by kernel_rfl) (fun _=>by kernel_rfl) (fun p21=>?_) (fun p21 W21 T hF hK=>?_)
 ·refine ok_v (by kernel_rfl) ?_
  refine ok_L (by kernel_rfl) (by kernel_rfl) (by kernel_rfl) ?_
  refine ok_n (fun _=>by kernel_rfl) ?_
  refine ok_P (by kernel_rfl) (by kernel_rfl) (by kernel_rfl) ?_
  exact ok_nil
 replace hS:=SymF.fb hS hF [0,1,1002] [⟨(p3 4).N,#[.bool false,.slice (p3 0).A (p3 0).N (p3 0).C,.slice (p3 0).A' (p3 0).N' (p3 0).C'],27,true⟩,⟨(p4 6).N,#[.int .i64 1,.int .i64 5,.int .i64 12,.int .i64 5,.int .i64 5,.int .i64 0,.int .i64 5,.int .i64 53,.int .i64 0,.int .i64 0,.int .i64 (-5),.int .i64 (-5)],33,true⟩,⟨(p21 2).N,#[.int .i64 5,.int .i64 53],33,true⟩] (by kernel_rfl) (by kernel_rfl)
 replace hG:=hF.gx
 clear hF
 have z21:=hS.fr.size
 refine wp_symQ hS hG hK (fun p22=>[.l 52 (.agg #[.int .i64 5,.int .i64 53]) 2 0,.l 53 (.agg #[.bool false,.slice (p3 0).A (p3 0).N (p3 0).C,.slice (p3 0).A' (p3 0).N' (p3 0).C']) 0 0,.c (some 54) (cV (.tuple #[.int .u64 0,.int .u8 0,.int .i64 5])),.v 51 (.tuple #[.int .u64 0,.int .u8 0,.int .i64 5]),.v 55 (.int .u64 0),.v 56 (.int .u8 0),.v 57 (.int .i64 5),.v 6 (.int .u64 0),.v 7 (.int .u8 0),.v 8 (.int .i64 5)]) (fun p22=>[(0,.bool false),(1,.bool true),(2,.pointer (some ⟨(p3 4).N,0,none⟩)),(5,.pointer (some ⟨(p21 2).N,0,none⟩)),(8,.int .i64 5),(45,.slice (some ⟨(p4 6).N,0,none⟩) 6 6),(46,.int .i64 6),(47,.int .i64 3),(48,.bool true),(49,.pointer (some ⟨(p4 6).N,6,none⟩)),(50,.agg #[.int .i64 5,.int .i64 53]),(51,.tuple #[.int .u64 0,.int .u8 0,.int .i64 5]),(52,.agg #[.int .i64 5,.int .i64 53]),(53,.agg #[.bool false,.slice (p3 0).A (p3 0).N (p3 0).C,.slice (p3 0).A' (p3 0).N' (p3 0).C']),(54,.tuple #[.int .u64 0,.int .u8 0,.int .i64 5]),(55,.int .u64 0),(56,.int .u8 0),(57,.int .i64 5),(58,.int .i64 5),(59,.bool false),(60,.int .i64 3)]) (by kernel_rfl) (fun _ _=>by kernel_rfl) (fun _=>by kernel_rfl) (fun _=>by kernel_rfl) (fun p22=>?_) (fun p22 W22 T hF hK=>?_)
 ·iterate 2 refine ok_L (by kernel_rfl) (by kernel_rfl) (by kernel_rfl) ?_
  refine ok_c (fun W cx=>as_v (sratio_bad _ (5) (53) false false (p3 0).A (p3 0).A' (p3 0).N (p3 0).C (p3 0).N' (p3 0).C' 9 (by decide))) (by kernel_rfl) ?_
  iterate 7 refine ok_v (by kernel_rfl) ?_
  exact ok_nil
 replace hS:=SymF.fb hS hF [0,1,2] [⟨(p3 4).N,#[.bool false,.slice (p3 0).A (p3 0).N (p3 0).C,.slice (p3 0).A' (p3 0).N' (p3 0).C'],27,true⟩,⟨(p4 6).N,#[.int .i64 1,.int .i64 5,.int .i64 12,.int .i64 5,.int .i64 5,.int .i64 0,.int .i64 5,.int .i64 53,.int .i64 0,.int .i64 0,.int .i64 (-5),.int .i64 (-5)],33,true⟩,⟨(p21 2).N,#[.int .i64 5,.int .i64 53],33,true⟩] (by kernel_rfl) (by kernel_rfl)
 replace hG:=hF.gx
 clear hF
 have z22:=hS.fr.size
 refine wp_symQ hS hG hK (fun p23=>[.v 58 (.int .i64 5),.v 59 (.bool false)]) (fun p23=>[(0,.bool false),(1,.bool true),(2,.pointer (some ⟨(p3 4).N,0,none⟩)),(5,.pointer (some ⟨(p21 2).N,0,none⟩)),(8,.int .i64 5),(45,.slice (some ⟨(p4 6).N,0,none⟩) 6 6),(46,.int .i64 6),(47,.int .i64 3),(48,.bool true),(49,.pointer (some ⟨(p4 6).N,6,none⟩)),(50,.agg #[.int .i64 5,.int .i64 53]),(51,.tuple #[.int .u64 0,.int .u8 0,.int .i64 5]),(52,.agg #[.int .i64 5,.int .i64 53]),(53,.agg #[.bool false,.slice (p3 0).A (p3 0).N (p3 0).C,.slice (p3 0).A' (p3 0).N' (p3 0).C']),(54,.tuple #[.int .u64 0,.int .u8 0,.int .i64 5]),(55,.int .u64 0),(56,.int .u8 0),(57,.int .i64 5),(58,.int .i64 5),(59,.bool false),(60,.int .i64 3)]) (by kernel_rfl) (fun _ _=>by kernel_rfl) (fun _=>by kernel_rfl) (fun _=>by kernel_rfl) (fun p23=>?_) (fun p23 W23 T hF hK=>?_)
 ·iterate 2 refine ok_v (by kernel_rfl) ?_
  exact ok_nil
 replace hS:=SymF.fb hS hF [0,1,2] [⟨(p3 4).N,#[.bool false,.slice (p3 0).A (p3 0).N (p3 0).C,.slice (p3 0).A' (p3 0).N' (p3 0).C'],27,true⟩,⟨(p4 6).N,#[.int .i64 1,.int .i64 5,.int .i64 12,.int .i64 5,.int .i64 5,.int .i64 0,.int .i64 5,.int .i64 53,.int .i64 0,.int .i64 0,.int .i64 (-5),.int .i64 (-5)],33,true⟩,⟨(p21 2).N,#[.int .i64 5,.int .i64 53],33,true⟩] (by kernel_rfl) (by kernel_rfl)
 replace hG:=hF.gx
 clear hF
 have z23:=hS.fr.size
 refine wp_cond_false (hK.ev 59 (by kernel_rfl) _ (by kernel_rfl)) ?_
 refine wp_skip ?_
 refine inb_n ?_
 refine then_n ?_
 refine wp_symG hS hG hK (fun p24=>[.v 60 (.int .i64 4),.v 47 (.int .i64 4)]) (fun p24=>[(0,.bool false),(1,.bool true),(2,.pointer (some ⟨(p3 4).N,0,none⟩)),(5,.pointer (some ⟨(p21 2).N,0,none⟩)),(8,.int .i64 5),(45,.slice (some ⟨(p4 6).N,0,none⟩) 6 6),(46,.int .i64 6),(47,.int .i64 4),(48,.bool true),(49,.pointer (some ⟨(p4 6).N,6,none⟩)),(50,.agg #[.int .i64 5,.int .i64 53]),(51,.tuple #[.int .u64 0,.int .u8 0,.int .i64 5]),(52,.agg #[.int .i64 5,.int .i64 53]),(53,.agg #[.bool false,.slice (p3 0).A (p3 0).N (p3 0).C,.slice (p3 0).A' (p3 0).N' (p3 0).C']),(54,.tuple #[.int .u64 0,.int .u8 0,.int .i64 5]),(55,.int .u64 0),(56,.int .u8 0),(57,.int .i64 5),(58,.int .i64 5),(59,.bool false),(60,.int .i64 4)]) (by kernel_rfl) (fun _ _=>by kernel_rfl) (fun _=>by kernel_rfl) (fun _=>by kernel_rfl) (fun p24=>?_) (fun p24 W24 T hF hK=>?_)
 ·iterate 2 refine ok_v (by kernel_rfl) ?_
  exact ok_nil
 replace hS:=SymF.fb hS hF [0,1,2] [⟨(p3 4).N,#[.bool false,.slice (p3 0).A (p3 0).N (p3 0).C,.slice (p3 0).A' (p3 0).N' (p3 0).C'],27,true⟩,⟨(p4 6).N,#[.int .i64 1,.int .i64 5,.int .i64 12,.int .i64 5,.int .i64 5,.int .i64 0,.int .i64 5,.int .i64 53,.int .i64 0,.int .i64 0,.int .i64 (-5),.int .i64 (-5)],33,true⟩,⟨(p21 2).N,#[.int .i64 5,.int .i64 53],33,true⟩] (by kernel_rfl) (by kernel_rfl)
 replace hG:=hF.gx
 clear hF
 have z24:=hS.fr.size
 refine then_n ?_
 refine rounds_s ?_
 refine wp_symQ hS hG hK (fun p25=>[.v 48 (.bool true)]) (fun p25=>[(0,.bool false),(1,.bool true),(2,.pointer (some ⟨(p3 4).N,0,none⟩)),(5,.pointer (some ⟨(p21 2).N,0,none⟩)),(8,.int .i64 5),(45,.slice (some ⟨(p4 6).N,0,none⟩) 6 6),(46,.int .i64 6),(47,.int .i64 4),(48,.bool true),(49,.pointer (some ⟨(p4 6).N,6,none⟩)),(50,.agg #[.int .i64 5,.int .i64 53]),(51,.tuple #[.int .u64 0,.int .u8 0,.int .i64 5]),(52,.agg #[.int .i64 5,.int .i64 53]),(53,.agg #[.bool false,.slice (p3 0).A (p3 0).N (p3 0).C,.slice (p3 0).A' (p3 0).N' (p3 0).C']),(54,.tuple #[.int .u64 0,.int .u8 0,.int .i64 5]),(55,.int .u64 0),(56,.int .u8 0),(57,.int .i64 5),(58,.int .i64 5),(59,.bool false),(60,.int .i64 4)]) (by kernel_rfl) (fun _ _=>by kernel_rfl) (fun _=>by kernel_rfl) (fun _=>by kernel_rfl) (fun p25=>?_) (fun p25 W25 T hF hK=>?_)
 ·refine ok_v (by kernel_rfl) ?_
  exact ok_nil
 replace hS:=SymF.fb hS hF [0,1,2] [⟨(p3 4).N,#[.bool false,.slice (p3 0).A (p3 0).N (p3 0).C,.slice (p3 0).A' (p3 0).N' (p3 0).C'],27,true⟩,⟨(p4 6).N,#[.int .i64 1,.int .i64 5,.int .i64 12,.int .i64 5,.int .i64 5,.int .i64 0,.int .i64 5,.int .i64 53,.int .i64 0,.int .i64 0,.int .i64 (-5),.int .i64 (-5)],33,true⟩,⟨(p21 2).N,#[.int .i64 5,.int .i64 53],33,true⟩] (by kernel_rfl) (by kernel_rfl)
 replace hG:=hF.gx
 clear hF
 have z25:=hS.fr.size
 refine wp_seq ?_
 refine wp_cond_true (hK.ev 48 (by kernel_rfl) _ (by kernel_rfl)) ?_
 refine wp_skip ?_
 refine then_n ?_
 refine wp_seq ?_
 refine wp_block ?_
 refine wp_symQ hS hG hK (fun p26=>[.v 49 (.pointer (some ⟨(p4 6).N,8,none⟩)),.l 50 (.agg #[.int .i64 0,.int .i64 0]) 1 8,.n 5 #[.int .i64 0,.int .i64 0] 33,.p 1002 0 [.int .i64 0,.int .i64 0]]) (fun p26=>[(0,.bool false),(1,.bool true),(2,.pointer (some ⟨(p3 4).N,0,none⟩)),(5,.pointer (some ⟨(p26 2).N,0,none⟩)),(8,.int .i64 5),(45,.slice (some ⟨(p4 6).N,0,none⟩) 6 6),(46,.int .i64 6),(47,.int .i64 4),(48,.bool true),(49,.pointer (some ⟨(p4 6).N,8,none⟩)),(50,.agg #[.int .i64 0,.int .i64 0]),(51,.tuple #[.int .u64 0,.int .u8 0,.int .i64 5]),(52,.agg #[.int .i64 5,.int .i64 53]),(53,.agg #[.bool false,.slice (p3 0).A (p3 0).N (p3 0).C,.slice (p3 0).A' (p3 0).N' (p3 0).C']),(54,.tuple #[.int .u64 0,.int .u8 0,.int .i64 5]),(55,.int .u64 0),(56,.int .u8 0),(57,.int .i64 5),(58,.int .i64 5),(59,.bool false),(60,.int .i64 4)]) (by kernel_rfl) (fun _ _=>by kernel_rfl) (fun _=>by kernel_rfl) (fun _=>by kernel_rfl) (fun p26=>?_) (fun p26 W26 T hF hK=>?_)
 ·refine ok_v (by kernel_rfl) ?_
  refine ok_L (by kernel_rfl) (by kernel_rfl) (by kernel_rfl) ?_
  refine ok_n (fun _=>by kernel_rfl) ?_
  refine ok_P (by kernel_rfl) (by kernel_rfl) (by kernel_rfl) ?_
  exact ok_nil
 replace hS:=SymF.fb hS hF [0,1,1002] [⟨(p3 4).N,#[.bool false,.slice (p3 0).A (p3 0).N (p3 0).C,.slice (p3 0).A' (p3 0).N' (p3 0).C'],27,true⟩,⟨(p4 6).N,#[.int .i64 1,.int .i64 5,.int .i64 12,.int .i64 5,.int .i64 5,.int .i64 0,.int .i64 5,.int .i64 53,.int .i64 0,.int .i64 0,.int .i64 (-5),.int .i64 (-5)],33,true⟩,⟨(p26 2).N,#[.int .i64 0,.int .i64 0],33,true⟩] (by kernel_rfl) (by kernel_rfl)
 replace hG:=hF.gx
 clear hF
 have z26:=hS.fr.size
 refine wp_symQ hS hG hK (fun p27=>[.l 52 (.agg #[.int .i64 0,.int .i64 0]) 2 0,.l 53 (.agg #[.bool false,.slice (p3 0).A (p3 0).N (p3 0).C,.slice (p3 0).A' (p3 0).N' (p3 0).C']) 0 0,.c (some 54) (cV (.tuple #[.int .u64 0,.int .u8 0,.int .i64 5])),.v 51 (.tuple #[.int .u64 0,.int .u8 0,.int .i64 5]),.v 55 (.int .u64 0),.v 56 (.int .u8 0),.v 57 (.int .i64 5),.v 6 (.int .u64 0),.v 7 (.int .u8 0),.v 8 (.int .i64 5)]) (fun p27=>[(0,.bool false),(1,.bool true),(2,.pointer (some ⟨(p3 4).N,0,none⟩)),(5,.pointer (some ⟨(p26 2).N,0,none⟩)),(8,.int .i64 5),(45,.slice (some ⟨(p4 6).N,0,none⟩) 6 6),(46,.int .i64 6),(47,.int .i64 4),(48,.bool true),(49,.pointer (some ⟨(p4 6).N,8,none⟩)),(50,.agg #[.int .i64 0,.int .i64 0]),(51,.tuple #[.int .u64 0,.int .u8 0,.int .i64 5]),(52,.agg #[.int .i64 0,.int .i64 0]),(53,.agg #[.bool false,.slice (p3 0).A (p3 0).N (p3 0).C,.slice (p3 0).A' (p3 0).N' (p3 0).C']),(54,.tuple #[.int .u64 0,.int .u8 0,.int .i64 5]),(55,.int .u64 0),(56,.int .u8 0),(57,.int .i64 5),(58,.int .i64 5),(59,.bool false),(60,.int .i64 4)]) (by kernel_rfl) (fun _ _=>by kernel_rfl) (fun _=>by kernel_rfl) (fun _=>by kernel_rfl) (fun p27=>?_) (fun p27 W27 T hF hK=>?_)
 ·iterate 2 refine ok_L (by kernel_rfl) (by kernel_rfl) (by kernel_rfl) ?_
  refine ok_c (fun W cx=>as_v (sratio_bad _ (0) (0) false false (p3 0).A (p3 0).A' (p3 0).N (p3 0).C (p3 0).N' (p3 0).C' 9 (by decide))) (by kernel_rfl) ?_
  iterate 7 refine ok_v (by kernel_rfl) ?_
  exact ok_nil
 replace hS:=SymF.fb hS hF [0,1,2] [⟨(p3 4).N,#[.bool false,.slice (p3 0).A (p3 0).N (p3 0).C,.slice (p3 0).A' (p3 0).N' (p3 0).C'],27,true⟩,⟨(p4 6).N,#[.int .i64 1,.int .i64 5,.int .i64 12,.int .i64 5,.int .i64 5,.int .i64 0,.int .i64 5,.int .i64 53,.int .i64 0,.int .i64 0,.int .i64 (-5),.int .i64 (-5)],33,true⟩,⟨(p26 2).N,#[.int .i64 0,.int .i64 0],33,true⟩] (by kernel_rfl) (by kernel_rfl)
 replace hG:=hF.gx
 clear hF
 have z27:=hS.fr.size
 refine wp_symQ hS hG hK (fun p28=>[.v 58 (.int .i64 5),.v 59 (.bool false)]) (fun p28=>[(0,.bool false),(1,.bool true),(2,.pointer (some ⟨(p3 4).N,0,none⟩)),(5,.pointer (some ⟨(p26 2).N,0,none⟩)),(8,.int .i64 5),(45,.slice (some ⟨(p4 6).N,0,none⟩) 6 6),(46,.int .i64 6),(47,.int .i64 4),(48,.bool true),(49,.pointer (some ⟨(p4 6).N,8,none⟩)),(50,.agg #[.int .i64 0,.int .i64 0]),(51,.tuple #[.int .u64 0,.int .u8 0,.int .i64 5]),(52,.agg #[.int .i64 0,.int .i64 0]),(53,.agg #[.bool false,.slice (p3 0).A (p3 0).N (p3 0).C,.slice (p3 0).A' (p3 0).N' (p3 0).C']),(54,.tuple #[.int .u64 0,.int .u8 0,.int .i64 5]),(55,.int .u64 0),(56,.int .u8 0),(57,.int .i64 5),(58,.int .i64 5),(59,.bool false),(60,.int .i64 4)]) (by kernel_rfl) (fun _ _=>by kernel_rfl) (fun _=>by kernel_rfl) (fun _=>by kernel_rfl) (fun p28=>?_) (fun p28 W28 T hF hK=>?_)
 ·iterate 2 refine ok_v (by kernel_rfl) ?_
  exact ok_nil
 replace hS:=SymF.fb hS hF [0,1,2] [⟨(p3 4).N,#[.bool false,.slice (p3 0).A (p3 0).N (p3 0).C,.slice (p3 0).A' (p3 0).N' (p3 0).C'],27,true⟩,⟨(p4 6).N,#[.int .i64 1,.int .i64 5,.int .i64 12,.int .i64 5,.int .i64 5,.int .i64 0,.int .i64 5,.int .i64 53,.int .i64 0,.int .i64 0,.int .i64 (-5),.int .i64 (-5)],33,true⟩,⟨(p26 2).N,#[.int .i64 0,.int .i64 0],33,true⟩] (by kernel_rfl) (by kernel_rfl)
 replace hG:=hF.gx
 clear hF
 have z28:=hS.fr.size
 refine wp_cond_false (hK.ev 59 (by kernel_rfl) _ (by kernel_rfl)) ?_
 refine wp_skip ?_
 refine inb_n ?_
 refine then_n ?_
 refine wp_symG hS hG hK (fun p29=>[.v 60 (.int .i64 5),.v 47 (.int .i64 5)]) (fun p29=>[(0,.bool false),(1,.bool true),(2,.pointer (some ⟨(p3 4).N,0,none⟩)),(5,.pointer (some ⟨(p26 2).N,0,none⟩)),(8,.int .i64 5),(45,.slice (some ⟨(p4 6).N,0,none⟩) 6 6),(46,.int .i64 6),(47,.int .i64 5),(48,.bool true),(49,.pointer (some ⟨(p4 6).N,8,none⟩)),(50,.agg #[.int .i64 0,.int .i64 0]),(51,.tuple #[.int .u64 0,.int .u8 0,.int .i64 5]),(52,.agg #[.int .i64 0,.int .i64 0]),(53,.agg #[.bool false,.slice (p3 0).A (p3 0).N (p3 0).C,.slice (p3 0).A' (p3 0).N' (p3 0).C']),(54,.tuple #[.int .u64 0,.int .u8 0,.int .i64 5]),(55,.int .u64 0),(56,.int .u8 0),(57,.int .i64 5),(58,.int .i64 5),(59,.bool false),(60,.int .i64 5)]) (by kernel_rfl) (fun _ _=>by kernel_rfl) (fun _=>by kernel_rfl) (fun _=>by kernel_rfl) (fun p29=>?_) (fun p29 W29 T hF hK=>?_)
 ·iterate 2 refine ok_v (by kernel_rfl) ?_
  exact ok_nil
 replace hS:=SymF.fb hS hF [0,1,2] [⟨(p3 4).N,#[.bool false,.slice (p3 0).A (p3 0).N (p3 0).C,.slice (p3 0).A' (p3 0).N' (p3 0).C'],27,true⟩,⟨(p4 6).N,#[.int .i64 1,.int .i64 5,.int .i64 12,.int .i64 5,.int .i64 5,.int .i64 0,.int .i64 5,.int .i64 53,.int .i64 0,.int .i64 0,.int .i64 (-5),.int .i64 (-5)],33,true⟩,⟨(p26 2).N,#[.int .i64 0,.int .i64 0],33,true⟩] (by kernel_rfl) (by kernel_rfl)
 replace hG:=hF.gx
 clear hF
 have z29:=hS.fr.size
 refine then_n ?_
 refine rounds_s ?_
 refine wp_symQ hS hG hK (fun p30=>[.v 48 (.bool true)]) (fun p30=>[(0,.bool false),(1,.bool true),(2,.pointer (some ⟨(p3 4).N,0,none⟩)),(5,.pointer (some ⟨(p26 2).N,0,none⟩)),(8,.int .i64 5),(45,.slice (some ⟨(p4 6).N,0,none⟩) 6 6),(46,.int .i64 6),(47,.int .i64 5),(48,.bool true),(49,.pointer (some ⟨(p4 6).N,8,none⟩)),(50,.agg #[.int .i64 0,.int .i64 0]),(51,.tuple #[.int .u64 0,.int .u8 0,.int .i64 5]),(52,.agg #[.int .i64 0,.int .i64 0]),(53,.agg #[.bool false,.slice (p3 0).A (p3 0).N (p3 0).C,.slice (p3 0).A' (p3 0).N' (p3 0).C']),(54,.tuple #[.int .u64 0,.int .u8 0,.int .i64 5]),(55,.int .u64 0),(56,.int .u8 0),(57,.int .i64 5),(58,.int .i64 5),(59,.bool false),(60,.int .i64 5)]) (by kernel_rfl) (fun _ _=>by kernel_rfl) (fun _=>by kernel_rfl) (fun _=>by kernel_rfl) (fun p30=>?_) (fun p30 W30 T hF hK=>?_)
 ·refine ok_v (by kernel_rfl) ?_
  exact ok_nil
 replace hS:=SymF.fb hS hF [0,1,2] [⟨(p3 4).N,#[.bool false,.slice (p3 0).A (p3 0).N (p3 0).C,.slice (p3 0).A' (p3 0).N' (p3 0).C'],27,true⟩,⟨(p4 6).N,#[.int .i64 1,.int .i64 5,.int .i64 12,.int .i64 5,.int .i64 5,.int .i64 0,.int .i64 5,.int .i64 53,.int .i64 0,.int .i64 0,.int .i64 (-5),.int .i64 (-5)],33,true⟩,⟨(p26 2).N,#[.int .i64 0,.int .i64 0],33,true⟩] (by kernel_rfl) (by kernel_rfl)
 replace hG:=hF.gx
 clear hF
 have z30:=hS.fr.size
 refine wp_seq ?_
 refine wp_cond_true (hK.ev 48 (by kernel_rfl) _ (by kernel_rfl)) ?_
 refine wp_skip ?_
 refine then_n ?_
 refine wp_seq ?_
 refine wp_block ?_
 refine wp_symQ hS hG hK (fun p31=>[.v 49 (.pointer (some ⟨(p4 6).N,10,none⟩)),.l 50 (.agg #[.int .i64 (-5),.int .i64 (-5)]) 1 10,.n 5 #[.int .i64 0,.int .i64 0] 33,.p 1002 0 [.int .i64 (-5),.int .i64 (-5)]]) (fun p31=>[(0,.bool false),(1,.bool true),(2,.pointer (some ⟨(p3 4).N,0,none⟩)),(5,.pointer (some ⟨(p31 2).N,0,none⟩)),(8,.int .i64 5),(45,.slice (some ⟨(p4 6).N,0,none⟩) 6 6),(46,.int .i64 6),(47,.int .i64 5),(48,.bool true),(49,.pointer (some ⟨(p4 6).N,10,none⟩)),(50,.agg #[.int .i64 (-5),.int .i64 (-5)]),(51,.tuple #[.int .u64 0,.int .u8 0,.int .i64 5]),(52,.agg #[.int .i64 0,.int .i64 0]),(53,.agg #[.bool false,.slice (p3 0).A (p3 0).N (p3 0).C,.slice (p3 0).A' (p3 0).N' (p3 0).C']),(54,.tuple #[.int .u64 0,.int .u8 0,.int .i64 5]),(55,.int .u64 0),(56,.int .u8 0),(57,.int .i64 5),(58,.int .i64 5),(59,.bool false),(60,.int .i64 5)]) (by kernel_rfl) (fun _ _=>by kernel_rfl) (fun _=>by kernel_rfl) (fun _=>by kernel_rfl) (fun p31=>?_) (fun p31 W31 T hF hK=>?_)
 ·refine ok_v (by kernel_rfl) ?_
  refine ok_L (by kernel_rfl) (by kernel_rfl) (by kernel_rfl) ?_
  refine ok_n (fun _=>by kernel_rfl) ?_
  refine ok_P (by kernel_rfl) (by kernel_rfl) (by kernel_rfl) ?_
  exact ok_nil
 replace hS:=SymF.fb hS hF [0,1,1002] [⟨(p3 4).N,#[.bool false,.slice (p3 0).A (p3 0).N (p3 0).C,.slice (p3 0).A' (p3 0).N' (p3 0).C'],27,true⟩,⟨(p4 6).N,#[.int .i64 1,.int .i64 5,.int .i64 12,.int .i64 5,.int .i64 5,.int .i64 0,.int .i64 5,.int .i64 53,.int .i64 0,.int .i64 0,.int .i64 (-5),.int .i64 (-5)],33,true⟩,⟨(p31 2).N,#[.int .i64 (-5),.int .i64 (-5)],33,true⟩] (by kernel_rfl) (by kernel_rfl)
 replace hG:=hF.gx
 clear hF
 have z31:=hS.fr.size
 refine wp_symQ hS hG hK (fun p32=>[.l 52 (.agg #[.int .i64 (-5),.int .i64 (-5)]) 2 0,.l 53 (.agg #[.bool false,.slice (p3 0).A (p3 0).N (p3 0).C,.slice (p3 0).A' (p3 0).N' (p3 0).C']) 0 0,.c (some 54) (cV (.tuple #[.int .u64 0,.int .u8 0,.int .i64 5])),.v 51 (.tuple #[.int .u64 0,.int .u8 0,.int .i64 5]),.v 55 (.int .u64 0),.v 56 (.int .u8 0),.v 57 (.int .i64 5),.v 6 (.int .u64 0),.v 7 (.int .u8 0),.v 8 (.int .i64 5)]) (fun p32=>[(0,.bool false),(1,.bool true),(2,.pointer (some ⟨(p3 4).N,0,none⟩)),(5,.pointer (some ⟨(p31 2).N,0,none⟩)),(8,.int .i64 5),(45,.slice (some ⟨(p4 6).N,0,none⟩) 6 6),(46,.int .i64 6),(47,.int .i64 5),(48,.bool true),(49,.pointer (some ⟨(p4 6).N,10,none⟩)),(50,.agg #[.int .i64 (-5),.int .i64 (-5)]),(51,.tuple #[.int .u64 0,.int .u8 0,.int .i64 5]),(52,.agg #[.int .i64 (-5),.int .i64 (-5)]),(53,.agg #[.bool false,.slice (p3 0).A (p3 0).N (p3 0).C,.slice (p3 0).A' (p3 0).N' (p3 0).C']),(54,.tuple #[.int .u64 0,.int .u8 0,.int .i64 5]),(55,.int .u64 0),(56,.int .u8 0),(57,.int .i64 5),(58,.int .i64 5),(59,.bool false),(60,.int .i64 5)]) (by kernel_rfl) (fun _ _=>by kernel_rfl) (fun _=>by kernel_rfl) (fun _=>by kernel_rfl) (fun p32=>?_) (fun p32 W32 T hF hK=>?_)
 ·iterate 2 refine ok_L (by kernel_rfl) (by kernel_rfl) (by kernel_rfl) ?_
  refine ok_c (fun W cx=>as_v (sratio_bad _ (-5) (-5) false false (p3 0).A (p3 0).A' (p3 0).N (p3 0).C (p3 0).N' (p3 0).C' 9 (by decide))) (by kernel_rfl) ?_
  iterate 7 refine ok_v (by kernel_rfl) ?_
  exact ok_nil
 replace hS:=SymF.fb hS hF [0,1,2] [⟨(p3 4).N,#[.bool false,.slice (p3 0).A (p3 0).N (p3 0).C,.slice (p3 0).A' (p3 0).N' (p3 0).C'],27,true⟩,⟨(p4 6).N,#[.int .i64 1,.int .i64 5,.int .i64 12,.int .i64 5,.int .i64 5,.int .i64 0,.int .i64 5,.int .i64 53,.int .i64 0,.int .i64 0,.int .i64 (-5),.int .i64 (-5)],33,true⟩,⟨(p31 2).N,#[.int .i64 (-5),.int .i64 (-5)],33,true⟩] (by kernel_rfl) (by kernel_rfl)
 replace hG:=hF.gx
 clear hF
 have z32:=hS.fr.size
 refine wp_symQ hS hG hK (fun p33=>[.v 58 (.int .i64 5),.v 59 (.bool false)]) (fun p33=>[(0,.bool false),(1,.bool true),(2,.pointer (some ⟨(p3 4).N,0,none⟩)),(5,.pointer (some ⟨(p31 2).N,0,none⟩)),(8,.int .i64 5),(45,.slice (some ⟨(p4 6).N,0,none⟩) 6 6),(46,.int .i64 6),(47,.int .i64 5),(48,.bool true),(49,.pointer (some ⟨(p4 6).N,10,none⟩)),(50,.agg #[.int .i64 (-5),.int .i64 (-5)]),(51,.tuple #[.int .u64 0,.int .u8 0,.int .i64 5]),(52,.agg #[.int .i64 (-5),.int .i64 (-5)]),(53,.agg #[.bool false,.slice (p3 0).A (p3 0).N (p3 0).C,.slice (p3 0).A' (p3 0).N' (p3 0).C']),(54,.tuple #[.int .u64 0,.int .u8 0,.int .i64 5]),(55,.int .u64 0),(56,.int .u8 0),(57,.int .i64 5),(58,.int .i64 5),(59,.bool false),(60,.int .i64 5)]) (by kernel_rfl) (fun _ _=>by kernel_rfl) (fun _=>by kernel_rfl) (fun _=>by kernel_rfl) (fun p33=>?_) (fun p33 W33 T hF hK=>?_)
 ·iterate 2 refine ok_v (by kernel_rfl) ?_
  exact ok_nil
 replace hS:=SymF.fb hS hF [0,1,2] [⟨(p3 4).N,#[.bool false,.slice (p3 0).A (p3 0).N (p3 0).C,.slice (p3 0).A' (p3 0).N' (p3 0).C'],27,true⟩,⟨(p4 6).N,#[.int .i64 1,.int .i64 5,.int .i64 12,.int .i64 5,.int .i64 5,.int .i64 0,.int .i64 5,.int .i64 53,.int .i64 0,.int .i64 0,.int .i64 (-5),.int .i64 (-5)],33,true⟩,⟨(p31 2).N,#[.int .i64 (-5),.int .i64 (-5)],33,true⟩] (by kernel_rfl) (by kernel_rfl)
 replace hG:=hF.gx
 clear hF
 have z33:=hS.fr.size
 refine wp_cond_false (hK.ev 59 (by kernel_rfl) _ (by kernel_rfl)) ?_
 refine wp_skip ?_
 refine inb_n ?_
 refine then_n ?_
 refine wp_symG hS hG hK (fun p34=>[.v 60 (.int .i64 6),.v 47 (.int .i64 6)]) (fun p34=>[(0,.bool false),(1,.bool true),(2,.pointer (some ⟨(p3 4).N,0,none⟩)),(5,.pointer (some ⟨(p31 2).N,0,none⟩)),(8,.int .i64 5),(45,.slice (some ⟨(p4 6).N,0,none⟩) 6 6),(46,.int .i64 6),(47,.int .i64 6),(48,.bool true),(49,.pointer (some ⟨(p4 6).N,10,none⟩)),(50,.agg #[.int .i64 (-5),.int .i64 (-5)]),(51,.tuple #[.int .u64 0,.int .u8 0,.int .i64 5]),(52,.agg #[.int .i64 (-5),.int .i64 (-5)]),(53,.agg #[.bool false,.slice (p3 0).A (p3 0).N (p3 0).C,.slice (p3 0).A' (p3 0).N' (p3 0).C']),(54,.tuple #[.int .u64 0,.int .u8 0,.int .i64 5]),(55,.int .u64 0),(56,.int .u8 0),(57,.int .i64 5),(58,.int .i64 5),(59,.bool false),(60,.int .i64 6)]) (by kernel_rfl) (fun _ _=>by kernel_rfl) (fun _=>by kernel_rfl) (fun _=>by kernel_rfl) (fun p34=>?_) (fun p34 W34 T hF hK=>?_)
 ·iterate 2 refine ok_v (by kernel_rfl) ?_
  exact ok_nil
 replace hS:=SymF.fb hS hF [0,1,2] [⟨(p3 4).N,#[.bool false,.slice (p3 0).A (p3 0).N (p3 0).C,.slice (p3 0).A' (p3 0).N' (p3 0).C'],27,true⟩,⟨(p4 6).N,#[.int .i64 1,.int .i64 5,.int .i64 12,.int .i64 5,.int .i64 5,.int .i64 0,.int .i64 5,.int .i64 53,.int .i64 0,.int .i64 0,.int .i64 (-5),.int .i64 (-5)],33,true⟩,⟨(p31 2).N,#[.int .i64 (-5),.int .i64 (-5)],33,true⟩] (by kernel_rfl) (by kernel_rfl)
 replace hG:=hF.gx
 clear hF
 have z34:=hS.fr.size
 refine then_n ?_
 refine rounds_s ?_
 refine wp_symQ hS hG hK (fun p35=>[.v 48 (.bool false)]) (fun p35=>[(0,.bool false),(1,.bool true),(2,.pointer (some ⟨(p3 4).N,0,none⟩)),(5,.pointer (some ⟨(p31 2).N,0,none⟩)),(8,.int .i64 5),(45,.slice (some ⟨(p4 6).N,0,none⟩) 6 6),(46,.int .i64 6),(47,.int .i64 6),(48,.bool false),(49,.pointer (some ⟨(p4 6).N,10,none⟩)),(50,.agg #[.int .i64 (-5),.int .i64 (-5)]),(51,.tuple #[.int .u64 0,.int .u8 0,.int .i64 5]),(52,.agg #[.int .i64 (-5),.int .i64 (-5)]),(53,.agg #[.bool false,.slice (p3 0).A (p3 0).N (p3 0).C,.slice (p3 0).A' (p3 0).N' (p3 0).C']),(54,.tuple #[.int .u64 0,.int .u8 0,.int .i64 5]),(55,.int .u64 0),(56,.int .u8 0),(57,.int .i64 5),(58,.int .i64 5),(59,.bool false),(60,.int .i64 6)]) (by kernel_rfl) (fun _ _=>by kernel_rfl) (fun _=>by kernel_rfl) (fun _=>by kernel_rfl) (fun p35=>?_) (fun p35 W35 T hF hK=>?_)
 ·refine ok_v (by kernel_rfl) ?_
  exact ok_nil
 replace hS:=SymF.fb hS hF [0,1,2] [⟨(p3 4).N,#[.bool false,.slice (p3 0).A (p3 0).N (p3 0).C,.slice (p3 0).A' (p3 0).N' (p3 0).C'],27,true⟩,⟨(p4 6).N,#[.int .i64 1,.int .i64 5,.int .i64 12,.int .i64 5,.int .i64 5,.int .i64 0,.int .i64 5,.int .i64 53,.int .i64 0,.int .i64 0,.int .i64 (-5),.int .i64 (-5)],33,true⟩,⟨(p31 2).N,#[.int .i64 (-5),.int .i64 (-5)],33,true⟩] (by kernel_rfl) (by kernel_rfl)
 replace hG:=hF.gx
 clear hF
 have z35:=hS.fr.size
 refine wp_seq ?_
 refine wp_cond_false (hK.ev 48 (by kernel_rfl) _ (by kernel_rfl)) ?_
 refine wp_exit ?_
 refine then_x ?_
 refine then_x ?_
 refine inb_x ?_
 refine then_n ?_
 refine wp_symQ hS hG hK (fun p36=>[.v 62 (.agg #[.int .i64 2,.int .i64 1]),.l 63 (.agg #[.bool false,.slice (p3 0).A (p3 0).N (p3 0).C,.slice (p3 0).A' (p3 0).N' (p3 0).C']) 0 0,.c (some 64) (cV (.tuple #[.int .u64 1,.int .u8 0,.int .i64 0])),.v 61 (.tuple #[.int .u64 1,.int .u8 0,.int .i64 0]),.v 65 (.int .u64 1),.v 66 (.int .u8 0),.v 67 (.int .i64 0),.v 9 (.int .u64 1),.v 10 (.int .u8 0),.v 11 (.int .i64 0)]) (fun p36=>[(0,.bool false),(1,.bool true),(2,.pointer (some ⟨(p3 4).N,0,none⟩)),(9,.int .u64 1),(11,.int .i64 0),(48,.bool false),(59,.bool false)]) (by kernel_rfl) (fun _ _=>by kernel_rfl) (fun _=>by kernel_rfl) (fun _=>by kernel_rfl) (fun p36=>?_) (fun p36 W36 T hF hK=>?_)
 ·refine ok_v (by kernel_rfl) ?_
  refine ok_L (by kernel_rfl) (by kernel_rfl) (by kernel_rfl) ?_
  refine ok_c (fun W cx=>as_v (rat_c 2 1 1 8 6 2 false false 1 2 66 0 1 1 0 (-1) ⟨by decide,by decide,by decide,by decide⟩ (by decide) (by decide) (by decide) (by decide) (by decide) (by decide) (by decide) (by decide) (by decide) (by kernel_rfl) (by decide) (by kernel_rfl) (by kernel_rfl) (by kernel_rfl) (by kernel_rfl) _ _ _ (p3 0).C _ (p3 0).C' _ (hT.kept cx.fr) (Mine.num cx.G.1) (Mine.num cx.G.2.1))) (by kernel_rfl) ?_
  iterate 7 refine ok_v (by kernel_rfl) ?_
  exact ok_nil
 replace hS:=SymF.fb hS hF [0] [⟨(p3 4).N,#[.bool false,.slice (p3 0).A (p3 0).N (p3 0).C,.slice (p3 0).A' (p3 0).N' (p3 0).C'],27,true⟩] (by kernel_rfl) (by kernel_rfl)
 replace hG:=hF.gx
 clear hF
 have z36:=hS.fr.size
 refine wp_symQ hS hG hK (fun p37=>[.v 69 (.agg #[.int .i64 11,.int .i64 52]),.l 70 (.agg #[.bool false,.slice (p3 0).A (p3 0).N (p3 0).C,.slice (p3 0).A' (p3 0).N' (p3 0).C']) 0 0,.c (some 71) (cV (.tuple #[.int .u64 4602678819172646912,.int .u8 0,.int .i64 0])),.v 68 (.tuple #[.int .u64 4602678819172646912,.int .u8 0,.int .i64 0]),.v 72 (.int .u64 4602678819172646912),.v 73 (.int .u8 0),.v 74 (.int .i64 0),.v 12 (.int .u64 4602678819172646912),.v 13 (.int .u8 0),.v 14 (.int .i64 0)]) (fun p37=>[(0,.bool false),(1,.bool true),(2,.pointer (some ⟨(p3 4).N,0,none⟩)),(9,.int .u64 1),(11,.int .i64 0),(12,.int .u64 4602678819172646912),(14,.int .i64 0),(48,.bool false),(59,.bool false)]) (by kernel_rfl) (fun _ _=>by kernel_rfl) (fun _=>by kernel_rfl) (fun _=>by kernel_rfl) (fun p37=>?_) (fun p37 W37 T hF hK=>?_)
 ·refine ok_v (by kernel_rfl) ?_
  refine ok_L (by kernel_rfl) (by kernel_rfl) (by kernel_rfl) ?_
  refine ok_c (fun W cx=>as_v (rat_c 11 52 1023 9223372036854775808 9218868437227405312 2 false false 1 2 66 0 1 4602678819172646912 0 (-1) ⟨by decide,by decide,by decide,by decide⟩ (by decide) (by decide) (by decide) (by decide) (by decide) (by decide) (by decide) (by decide) (by decide) (by kernel_rfl) (by decide) (by kernel_rfl) (by kernel_rfl) (by kernel_rfl) (by kernel_rfl) _ _ _ (p3 0).C _ (p3 0).C' _ (hT.kept cx.fr) (Mine.num cx.G.1) (Mine.num cx.G.2.1))) (by kernel_rfl) ?_
  iterate 7 refine ok_v (by kernel_rfl) ?_
  exact ok_nil
 replace hS:=SymF.fb hS hF [0] [⟨(p3 4).N,#[.bool false,.slice (p3 0).A (p3 0).N (p3 0).C,.slice (p3 0).A' (p3 0).N' (p3 0).C'],27,true⟩] (by kernel_rfl) (by kernel_rfl)
 replace hG:=hF.gx
 clear hF
 have z37:=hS.fr.size
 refine wp_symQ hS hG hK (fun p38=>[.v 76 (.agg #[.int .i64 2,.int .i64 52]),.l 77 (.agg #[.bool false,.slice (p3 0).A (p3 0).N (p3 0).C,.slice (p3 0).A' (p3 0).N' (p3 0).C']) 0 0,.c (some 78) (cV (.tuple #[.int .u64 2251799813685248,.int .u8 0,.int .i64 0])),.v 75 (.tuple #[.int .u64 2251799813685248,.int .u8 0,.int .i64 0]),.v 79 (.int .u64 2251799813685248),.v 80 (.int .u8 0),.v 81 (.int .i64 0),.v 15 (.int .u64 2251799813685248),.v 16 (.int .u8 0),.v 17 (.int .i64 0)]) (fun p38=>[(0,.bool false),(1,.bool true),(9,.int .u64 1),(11,.int .i64 0),(12,.int .u64 4602678819172646912),(14,.int .i64 0),(15,.int .u64 2251799813685248),(17,.int .i64 0),(48,.bool false),(59,.bool false)]) (by kernel_rfl) (fun _ _=>by kernel_rfl) (fun _=>by kernel_rfl) (fun _=>by kernel_rfl) (fun p38=>?_) (fun p38 W38 T hF hK=>?_)
 ·refine ok_v (by kernel_rfl) ?_
  refine ok_L (by kernel_rfl) (by kernel_rfl) (by kernel_rfl) ?_
  refine ok_c (fun W cx=>as_v (rat_c 2 52 1 18014398509481984 13510798882111488 2 false true 1 2 66 0 1 2251799813685248 0 (-1) ⟨by decide,by decide,by decide,by decide⟩ (by decide) (by decide) (by decide) (by decide) (by decide) (by decide) (by decide) (by decide) (by decide) (by kernel_rfl) (by decide) (by kernel_rfl) (by kernel_rfl) (by kernel_rfl) (by kernel_rfl) _ _ _ (p3 0).C _ (p3 0).C' _ (hT.kept cx.fr) (Mine.num cx.G.1) (Mine.num cx.G.2.1))) (by kernel_rfl) ?_
  iterate 7 refine ok_v (by kernel_rfl) ?_
  exact ok_nil
 replace hS:=SymF.fb hS hF [] [] (by kernel_rfl) (by kernel_rfl)
 replace hG:=hF.gx
 clear hF
 have z38:=hS.fr.size
 refine wp_symQ hS hG hK (fun p39=>[.c (some 83) (cH W38.heap.size 7 8 fun x9 y9=>.tuple #[.agg #[.bool false,x9,y9],.int .i64 0]),.v 82 (.tuple #[.agg #[.bool false,.slice (p39 0).A (p39 0).N (p39 0).C,.slice (p39 0).A' (p39 0).N' (p39 0).C'],.int .i64 0]),.v 84 (.agg #[.bool false,.slice (p39 0).A (p39 0).N (p39 0).C,.slice (p39 0).A' (p39 0).N' (p39 0).C']),.v 85 (.int .i64 0),.n 18 #[.bool false,.slice none 0 0,.slice none 0 0] 27,.p 1004 0 [.bool false,.slice (p39 0).A (p39 0).N (p39 0).C,.slice (p39 0).A' (p39 0).N' (p39 0).C'],.v 19 (.int .i64 0)]) (fun p39=>[(0,.bool false),(1,.bool true),(9,.int .u64 1),(11,.int .i64 0),(12,.int .u64 4602678819172646912),(14,.int .i64 0),(15,.int .u64 2251799813685248),(17,.int .i64 0),(18,.pointer (some ⟨(p39 4).N,0,none⟩)),(48,.bool false),(59,.bool false)]) (by kernel_rfl) (fun _ _=>by kernel_rfl) (fun _=>by kernel_rfl) (fun _=>by kernel_rfl) (fun p39=>?_) (fun p39 W39 T hF hK=>?_)
 ·refine ok_c (fun W cx=>as_h cx.hb (frac_is false 7 8 (by decide) (by decide) (by decide) (by decide) (by decide) _)) (by kernel_rfl) ?_
  iterate 3 refine ok_v (by kernel_rfl) ?_
  refine ok_n (fun _=>by kernel_rfl) ?_
  refine ok_P (by kernel_rfl) (by kernel_rfl) (by kernel_rfl) ?_
  refine ok_v (by kernel_rfl) ?_
  exact ok_nil
 replace hS:=SymF.fb hS hF [1004] [⟨(p39 4).N,#[.bool false,.slice (p39 0).A (p39 0).N (p39 0).C,.slice (p39 0).A' (p39 0).N' (p39 0).C'],27,true⟩] (by kernel_rfl) (by kernel_rfl)
 replace hG:GsAt (gM W38.heap.size (p39 0).A (p39 0).N (p39 0).C 7 :: gM W38.heap.size (p39 0).A' (p39 0).N' (p39 0).C' 8 :: _) W39:=⟨And.left (hF.fx 0),And.right (hF.fx 0),hF.gx⟩
 clear hF
 have z39:=hS.fr.size
 refine wp_symQ hS hG hK (fun p40=>[.c (some 87) (cH W39.heap.size 7 2 fun x9 y9=>.tuple #[.agg #[.bool true,x9,y9],.int .i64 0]),.v 86 (.tuple #[.agg #[.bool true,.slice (p40 0).A (p40 0).N (p40 0).C,.slice (p40 0).A' (p40 0).N' (p40 0).C'],.int .i64 0]),.v 88 (.agg #[.bool true,.slice (p40 0).A (p40 0).N (p40 0).C,.slice (p40 0).A' (p40 0).N' (p40 0).C']),.v 89 (.int .i64 0),.n 20 #[.bool false,.slice none 0 0,.slice none 0 0] 27,.p 1004 0 [.bool true,.slice (p40 0).A (p40 0).N (p40 0).C,.slice (p40 0).A' (p40 0).N' (p40 0).C'],.v 21 (.int .i64 0)]) (fun p40=>[(0,.bool false),(1,.bool true),(9,.int .u64 1),(11,.int .i64 0),(12,.int .u64 4602678819172646912),(14,.int .i64 0),(15,.int .u64 2251799813685248),(17,.int .i64 0),(18,.pointer (some ⟨(p39 4).N,0,none⟩)),(20,.pointer (some ⟨(p40 4).N,0,none⟩)),(48,.bool false),(59,.bool false)]) (by kernel_rfl) (fun _ _=>by kernel_rfl) (fun _=>by kernel_rfl) (fun _=>by kernel_rfl) (fun p40=>?_) (fun p40 W40 T hF hK=>?_)
 ·refine ok_c (fun W cx=>as_h cx.hb (frac_is true 7 2 (by decide) (by decide) (by decide) (by decide) (by decide) _)) (by kernel_rfl) ?_
  iterate 3 refine ok_v (by kernel_rfl) ?_
  refine ok_n (fun _=>by kernel_rfl) ?_
  refine ok_P (by kernel_rfl) (by kernel_rfl) (by kernel_rfl) ?_
  refine ok_v (by kernel_rfl) ?_
  exact ok_nil
 replace hS:=SymF.fb hS hF [0,1004] [⟨(p39 4).N,#[.bool false,.slice (p39 0).A (p39 0).N (p39 0).C,.slice (p39 0).A' (p39 0).N' (p39 0).C'],27,true⟩,⟨(p40 4).N,#[.bool true,.slice (p40 0).A (p40 0).N (p40 0).C,.slice (p40 0).A' (p40 0).N' (p40 0).C'],27,true⟩] (by kernel_rfl) (by kernel_rfl)
 replace hG:GsAt (gM W39.heap.size (p40 0).A (p40 0).N (p40 0).C 7 :: gM W39.heap.size (p40 0).A' (p40 0).N' (p40 0).C' 2 :: _) W40:=⟨And.left (hF.fx 0),And.right (hF.fx 0),hF.gx⟩
 clear hF
 have z40:=hS.fr.size
 refine wp_symQ hS hG hK (fun p41=>[.v 91 (.agg #[.int .i64 2,.int .i64 1]),.l 92 (.agg #[.bool false,.slice (p39 0).A (p39 0).N (p39 0).C,.slice (p39 0).A' (p39 0).N' (p39 0).C']) 0 0,.c (some 93) (cV (.tuple #[.int .u64 2,.int .u8 1,.int .i64 0])),.v 90 (.tuple #[.int .u64 2,.int .u8 1,.int .i64 0]),.v 94 (.int .u64 2),.v 95 (.int .u8 1),.v 96 (.int .i64 0),.v 22 (.int .u64 2),.v 23 (.int .u8 1),.v 24 (.int .i64 0)]) (fun p41=>[(0,.bool false),(1,.bool true),(9,.int .u64 1),(11,.int .i64 0),(12,.int .u64 4602678819172646912),(14,.int .i64 0),(15,.int .u64 2251799813685248),(17,.int .i64 0),(18,.pointer (some ⟨(p39 4).N,0,none⟩)),(20,.pointer (some ⟨(p40 4).N,0,none⟩)),(23,.int .u8 1),(48,.bool false),(59,.bool false)]) (by kernel_rfl) (fun _ _=>by kernel_rfl) (fun _=>by kernel_rfl) (fun _=>by kernel_rfl) (fun p41=>?_) (fun p41 W41 T hF hK=>?_)
 ·refine ok_v (by kernel_rfl) ?_
  refine ok_L (by kernel_rfl) (by kernel_rfl) (by kernel_rfl) ?_
  refine ok_c (fun W cx=>as_v (rat_c 2 1 1 8 6 0 false false 7 8 64 3 3 2 1 (-3) ⟨by decide,by decide,by decide,by decide⟩ (by decide) (by decide) (by decide) (by decide) (by decide) (by decide) (by decide) (by decide) (by decide) (by kernel_rfl) (by decide) (by kernel_rfl) (by kernel_rfl) (by kernel_rfl) (by kernel_rfl) _ _ _ (p39 0).C _ (p39 0).C' _ (hT.kept cx.fr) (Mine.num cx.G.2.2.1) (Mine.num cx.G.2.2.2.1))) (by kernel_rfl) ?_
  iterate 7 refine ok_v (by kernel_rfl) ?_
  exact ok_nil
 replace hS:=SymF.fb hS hF [0,1] [⟨(p39 4).N,#[.bool false,.slice (p39 0).A (p39 0).N (p39 0).C,.slice (p39 0).A' (p39 0).N' (p39 0).C'],27,true⟩,⟨(p40 4).N,#[.bool true,.slice (p40 0).A (p40 0).N (p40 0).C,.slice (p40 0).A' (p40 0).N' (p40 0).C'],27,true⟩] (by kernel_rfl) (by kernel_rfl)
 replace hG:=hF.gx
 clear hF
 have z41:=hS.fr.size
 refine wp_symQ hS hG hK (fun p42=>[.v 98 (.agg #[.int .i64 2,.int .i64 1]),.l 99 (.agg #[.bool false,.slice (p39 0).A (p39 0).N (p39 0).C,.slice (p39 0).A' (p39 0).N' (p39 0).C']) 0 0,.c (some 100) (cV (.tuple #[.int .u64 1,.int .u8 5,.int .i64 0])),.v 97 (.tuple #[.int .u64 1,.int .u8 5,.int .i64 0]),.v 101 (.int .u64 1),.v 102 (.int .u8 5),.v 103 (.int .i64 0),.v 25 (.int .u64 1),.v 26 (.int .u8 5),.v 27 (.int .i64 0)]) (fun p42=>[(0,.bool false),(1,.bool true),(9,.int .u64 1),(11,.int .i64 0),(12,.int .u64 4602678819172646912),(14,.int .i64 0),(15,.int .u64 2251799813685248),(17,.int .i64 0),(20,.pointer (some ⟨(p40 4).N,0,none⟩)),(23,.int .u8 1),(26,.int .u8 5),(48,.bool false),(59,.bool false)]) (by kernel_rfl) (fun _ _=>by kernel_rfl) (fun _=>by kernel_rfl) (fun _=>by kernel_rfl) (fun p42=>?_) (fun p42 W42 T hF hK=>?_)
 ·refine ok_v (by kernel_rfl) ?_
  refine ok_L (by kernel_rfl) (by kernel_rfl) (by kernel_rfl) ?_
  refine ok_c (fun W cx=>as_v (rat_c 2 1 1 8 6 2 false false 7 8 64 3 3 1 5 (-3) ⟨by decide,by decide,by decide,by decide⟩ (by decide) (by decide) (by decide) (by decide) (by decide) (by decide) (by decide) (by decide) (by decide) (by kernel_rfl) (by decide) (by kernel_rfl) (by kernel_rfl) (by kernel_rfl) (by kernel_rfl) _ _ _ (p39 0).C _ (p39 0).C' _ (hT.kept cx.fr) (Mine.num cx.G.2.2.1) (Mine.num cx.G.2.2.2.1))) (by kernel_rfl) ?_
  iterate 7 refine ok_v (by kernel_rfl) ?_
  exact ok_nil
 replace hS:=SymF.fb hS hF [1] [⟨(p40 4).N,#[.bool true,.slice (p40 0).A (p40 0).N (p40 0).C,.slice (p40 0).A' (p40 0).N' (p40 0).C'],27,true⟩] (by kernel_rfl) (by kernel_rfl)
 replace hG:=hF.gx
 clear hF
 have z42:=hS.fr.size
 refine wp_symQ hS hG hK (fun p43=>[.v 105 (.agg #[.int .i64 2,.int .i64 1]),.l 106 (.agg #[.bool true,.slice (p40 0).A (p40 0).N (p40 0).C,.slice (p40 0).A' (p40 0).N' (p40 0).C']) 0 0,.c (some 107) (cV (.tuple #[.int .u64 14,.int .u8 3,.int .i64 0])),.v 104 (.tuple #[.int .u64 14,.int .u8 3,.int .i64 0]),.v 108 (.int .u64 14),.v 109 (.int .u8 3),.v 110 (.int .i64 0),.v 28 (.int .u64 14),.v 29 (.int .u8 3),.v 30 (.int .i64 0)]) (fun p43=>[(0,.bool false),(1,.bool true),(9,.int .u64 1),(11,.int .i64 0),(12,.int .u64 4602678819172646912),(14,.int .i64 0),(15,.int .u64 2251799813685248),(17,.int .i64 0),(20,.pointer (some ⟨(p40 4).N,0,none⟩)),(23,.int .u8 1),(26,.int .u8 5),(28,.int .u64 14),(29,.int .u8 3),(48,.bool false),(59,.bool false)]) (by kernel_rfl) (fun _ _=>by kernel_rfl) (fun _=>by kernel_rfl) (fun _=>by kernel_rfl) (fun p43=>?_) (fun p43 W43 T hF hK=>?_)
 ·refine ok_v (by kernel_rfl) ?_
  refine ok_L (by kernel_rfl) (by kernel_rfl) (by kernel_rfl) ?_
  refine ok_c (fun W cx=>as_v (rat_c 2 1 1 8 6 0 true false 7 2 64 3 3 14 3 (-1) ⟨by decide,by decide,by decide,by decide⟩ (by decide) (by decide) (by decide) (by decide) (by decide) (by decide) (by decide) (by decide) (by decide) (by kernel_rfl) (by decide) (by kernel_rfl) (by kernel_rfl) (by kernel_rfl) (by kernel_rfl) _ _ _ (p40 0).C _ (p40 0).C' _ (hT.kept cx.fr) (Mine.num cx.G.1) (Mine.num cx.G.2.1))) (by kernel_rfl) ?_
  iterate 7 refine ok_v (by kernel_rfl) ?_
  exact ok_nil
 replace hS:=SymF.fb hS hF [0] [⟨(p40 4).N,#[.bool true,.slice (p40 0).A (p40 0).N (p40 0).C,.slice (p40 0).A' (p40 0).N' (p40 0).C'],27,true⟩] (by kernel_rfl) (by kernel_rfl)
 replace hG:=hF.gx
 clear hF
 have z43:=hS.fr.size
 refine wp_symQ hS hG hK (fun p44=>[.v 112 (.agg #[.int .i64 2,.int .i64 1]),.l 113 (.agg #[.bool true,.slice (p40 0).A (p40 0).N (p40 0).C,.slice (p40 0).A' (p40 0).N' (p40 0).C']) 0 0,.c (some 114) (cV (.tuple #[.int .u64 13,.int .u8 1,.int .i64 0])),.v 111 (.tuple #[.int .u64 13,.int .u8 1,.int .i64 0]),.v 115 (.int .u64 13),.v 116 (.int .u8 1),.v 117 (.int .i64 0),.v 31 (.int .u64 13),.v 32 (.int .u8 1),.v 33 (.int .i64 0)]) (fun p44=>[(0,.bool false),(1,.bool true),(9,.int .u64 1),(11,.int .i64 0),(12,.int .u64 4602678819172646912),(14,.int .i64 0),(15,.int .u64 2251799813685248),(17,.int .i64 0),(23,.int .u8 1),(26,.int .u8 5),(28,.int .u64 14),(29,.int .u8 3),(31,.int .u64 13),(32,.int .u8 1),(48,.bool false),(59,.bool false)]) (by kernel_rfl) (fun _ _=>by kernel_rfl) (fun _=>by kernel_rfl) (fun _=>by kernel_rfl) (fun p44=>?_) (fun p44 W44 T hF hK=>?_)
 ·refine ok_v (by kernel_rfl) ?_
  refine ok_L (by kernel_rfl) (by kernel_rfl) (by kernel_rfl) ?_
  refine ok_c (fun W cx=>as_v (rat_c 2 1 1 8 6 3 true false 7 2 64 3 3 13 1 (-1) ⟨by decide,by decide,by decide,by decide⟩ (by decide) (by decide) (by decide) (by decide) (by decide) (by decide) (by decide) (by decide) (by decide) (by kernel_rfl) (by decide) (by kernel_rfl) (by kernel_rfl) (by kernel_rfl) (by kernel_rfl) _ _ _ (p40 0).C _ (p40 0).C' _ (hT.kept cx.fr) (Mine.num cx.G.1) (Mine.num cx.G.2.1))) (by kernel_rfl) ?_
  iterate 7 refine ok_v (by kernel_rfl) ?_
  exact ok_nil
 replace hS:=SymF.fb hS hF [] [] (by kernel_rfl) (by kernel_rfl)
 replace hG:=hF.gx
 clear hF
 have z44:=hS.fr.size
 refine wp_seq ?_
 refine wp_symQ hS hG hK (fun p45=>[.v 118 (.int .u8 1),.v 119 (.bool false),.v 120 (.bool false),.v 121 (.int .u8 5),.v 122 (.bool false),.v 123 (.bool false),.v 124 (.bool false),.v 125 (.int .u64 14),.v 126 (.bool false),.v 127 (.bool false),.v 128 (.bool false),.v 129 (.int .u8 3),.v 130 (.bool false),.v 131 (.bool false),.v 132 (.bool false),.v 133 (.int .u64 13),.v 134 (.bool false),.v 135 (.bool false),.v 136 (.bool false),.v 137 (.int .u8 1),.v 138 (.bool false),.v 139 (.bool false)]) (fun p45=>[(0,.bool false),(1,.bool true),(9,.int .u64 1),(11,.int .i64 0),(12,.int .u64 4602678819172646912),(14,.int .i64 0),(15,.int .u64 2251799813685248),(17,.int .i64 0),(48,.bool false),(59,.bool false),(139,.bool false)]) (by kernel_rfl) (fun _ _=>by kernel_rfl) (fun _=>by kernel_rfl) (fun _=>by kernel_rfl) (fun p45=>?_) (fun p45 W45 T hF hK=>?_)
 ·iterate 22 refine ok_v (by kernel_rfl) ?_
  exact ok_nil
 replace hS:=SymF.fb hS hF [] [] (by kernel_rfl) (by kernel_rfl)
 replace hG:=hF.gx
 clear hF
 have z45:=hS.fr.size
 refine wp_cond_false (hK.ev 139 (by kernel_rfl) _ (by kernel_rfl)) ?_
 refine wp_skip ?_
 refine then_n ?_
 refine wp_symQ hS hG hK (fun p46=>[.v 140 (.bool true),.v 141 (.bool true),.v 142 (.bool true),.v 143 (.bool true),.v 144 (.int .i64 0),.v 145 (.bool true),.v 146 (.bool true),.v 147 (.bool true),.v 148 (.int .i64 0),.v 149 (.bool true),.v 150 (.bool true),.v 151 (.bool true),.v 152 (.int .i64 0),.v 153 (.bool true),.v 154 (.bool true),.v 155 (.bool true),.v 156 (.int .u64 1),.v 157 (.bool true),.v 158 (.bool true),.v 159 (.bool true),.v 160 (.int .u64 4602678819172646912),.v 161 (.bool true),.v 162 (.bool true),.v 163 (.bool true),.v 164 (.int .u64 2251799813685248),.v 165 (.bool true),.v 166 (.bool true),.v 0 (.bool true)]) (fun p46=>[(0,.bool true),(48,.bool false),(59,.bool false),(139,.bool false)]) (by kernel_rfl) (fun _ _=>by kernel_rfl) (fun _=>by kernel_rfl) (fun _=>by kernel_rfl) (fun p46=>?_) (fun p46 W46 T hF hK=>?_)
 ·iterate 28 refine ok_v (by kernel_rfl) ?_
  exact ok_nil
 replace hS:=SymF.fb hS hF [] [] (by kernel_rfl) (by kernel_rfl)
 replace hG:=hF.gx
 clear hF
 have z46:=hS.fr.size
 refine wp_ret ?_
 exact sym_end hS hK (.bool true) [] [] (by kernel_rfl) (by kernel_rfl) ⟨rfl,hS.fr⟩
end Go.Proofs.YtcclpafdkgnmiaaGreatDoor
