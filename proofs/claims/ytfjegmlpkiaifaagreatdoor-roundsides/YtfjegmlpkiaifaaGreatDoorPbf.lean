/- Of what RoundSidesRow stands on: SFrac SRatC SAlive RsWalk RsAll SOrdA SOrdW RySame Rc8Rat SOrdLaw RsHalfM RsLaw RsLaw2. -/
import Derived.Test.YtfjegmlpkiaifaaGreatDoorPbd
import Derived.Test.YtfjegmlpkiaifaaGreatDoorPbe
import Derived.Test.YtfjegmlpkiaifaaGreatDoorPbb
import Derived.Test.YtfjegmlpkiaifaaGreatDoorPao
import Derived.Test.YtfjegmlpkiaifaaGreatDoorPat
import Derived.Test.YtfjegmlpkiaifaaGreatDoorPau
import Derived.Test.YtfjegmlpkiaifaaGreatDoorPab
import Derived.Test.YtfjegmlpkiaifaaGreatDoorPaz
import Derived.Test.YtfjegmlpkiaifaaGreatDoorPax
namespace Go.Proofs.YtfjegmlpkiaifaaGreatDoor
open Go.RowKit
set_option maxHeartbeats 2000000
set_option maxRecDepth 20000
theorem num_new (w:World) (n:Nat) (h0:0 < n) (h1:n < 4294967296):Num (w.alloc (.cells #[.int .u32 (n:Int)] 49)) (some ⟨w.heap.size,0,none⟩) 1 n:=by
 refine ⟨[n],rfl,Or.inr ⟨w.heap.size,0,rfl,fun j hj=>?_⟩,fun x hx=>?_,?_,?_,by omega⟩
 ·have hj0:j = 0:=by simp at hj; omega
  subst hj0
  rw [cell_of_row _ w.heap.size 0 _ _ _ (heap_alloc_new w _)]; rfl
 ·simp at hx; omega
 ·simp [Pl.Norm]; omega
 ·simp [Pl.val]
theorem frac_is (s:Bool) (n d:Nat) (hn:0 < n) (hn2:n < 4294967296) (hd:0 < d) (hd2:d < 4294967296) (hg:Nat.gcd n d = 1) (w:World) :
  Calls Tryz.prog 17 #[.bool s,.int .u32 (n:Int),.int .u32 (d:Int)] w fun en w'=>(∃ a k c a' k' c',en = .returned (.tuple #[.agg #[.bool s,.slice a k c,.slice a' k' c'],.int .i64 0])∧Mine w' w.heap.size a k c n∧Mine w' w.heap.size a' k' c' d)∧Below w.heap.size w w':=by
 have q1:=num_new (w.alloc (.cells #[.bool false,.slice none 0 0,.slice none 0 0] 28)) n hn hn2
 have q2:=num_new ((w.alloc (.cells #[.bool false,.slice none 0 0,.slice none 0 0] 28)).alloc (.cells #[.int .u32 (n:Int)] 49)) d hd hd2
 replace q1:=q1.kept (gr_alloc _ (.cells #[.int .u32 (d:Int)] 49))
 have hS:=(Fs.one w #[.bool false,.slice none 0 0,.slice none 0 0] 28).kept (gr_alloc _ (.cells #[.int .u32 (n:Int)] 49))
 replace hS:=hS.kept (gr_alloc _ (.cells #[.int .u32 (d:Int)] 49))
 simp only [World.size_alloc] at q1 q2
 have hb0:=hS.fr
 have HS:=hide hS
 have H1:=hide q1
 have H2:=hide q2
 clear q1 q2 hS
 go_enter Tryz.func17,Tryz.ntmps17
 go_wp2_with fail
 refine (ymake_any s _ _ 1 1 1 1 n d _ (unhide H1) (unhide H2) hd).mono ?_
 rw [hg,Nat.div_one,Nat.div_one]
 rintro en w1 ⟨⟨a,k,c,a',k',c',rfl,g1,g2⟩,hb1⟩
 ·have hS:=(unhide HS).kept hb1
  have hdn:decide (n = 0) = false:=by simp; omega
  rw [hdn]
  have hz:=hb1.size
  have hz0:=hb0.size
  obtain ⟨⟨z0,z1,z2,-⟩,-⟩:=hS.cells
  have Q_:=hS.frozen (b:=w.heap.size) (cs:=#[.bool false,.slice none 0 0,.slice none 0 0]) (t:=28) (by simp)
  have f0:=Q_ 0
  have f1:=Q_ 1
  have f2:=Q_ 2
  clear Q_
  have G1:=hide g1
  have G2:=hide g2
  have HF:=hide hS
  clear g1 g2 hdn hS hb0 hb1 hz hz0 hn hn2 hd hd2
  simp only [Bool.and_true,Bool.not_false]
  go_wp2
  have hS:=unhide HF
  have e1:=hS.put (b:=w.heap.size) (cs:=#[.bool false,.slice none 0 0,.slice none 0 0]) (t:=28) (by simp) (by omega) 0 (.bool s) [⟨w.heap.size,#[.bool s,.slice none 0 0,.slice none 0 0],28⟩] (by simp)
  have e2:=e1.put (b:=w.heap.size) (cs:=#[.bool s,.slice none 0 0,.slice none 0 0]) (t:=28) (by simp) (by omega) 1 (.slice a k c) [⟨w.heap.size,#[.bool s,.slice a k c,.slice none 0 0],28⟩] (by simp)
  have e3:=e2.put (b:=w.heap.size) (cs:=#[.bool s,.slice a k c,.slice none 0 0]) (t:=28) (by simp) (by omega) 2 (.slice a' k' c') [⟨w.heap.size,#[.bool s,.slice a k c,.slice a' k' c'],28⟩] (by simp)
  have b0:=hS.bx ⟨w.heap.size,#[.bool false,.slice none 0 0,.slice none 0 0],28⟩ (by simp)
  have b1:=e1.bx ⟨w.heap.size,#[.bool s,.slice none 0 0,.slice none 0 0],28⟩ (by simp)
  have b2:=e2.bx ⟨w.heap.size,#[.bool s,.slice a k c,.slice none 0 0],28⟩ (by simp)
  obtain ⟨⟨y0,y1,y2,-⟩,-⟩:=e3.cells
  have ho:w.heap.size≤(((w.alloc (.cells #[.bool false,.slice none 0 0,.slice none 0 0] 28)).alloc (.cells #[.int .u32 (n:Int)] 49)).alloc (.cells #[.int .u32 (d:Int)] 49)).heap.size:=by simp; omega
  exact bodyPost_ret (v:=.tuple #[.agg #[.bool s,.slice a k c,.slice a' k' c'],.int .i64 0]) (by simp [results,Tryz.results17,go_sem,y0,y1,y2]) rfl ⟨⟨a,k,c,a',k',c',rfl,((((unhide G1).put b0 (by simp) 0 _).put b1 (by simp) 1 _).put b2 (by simp) 2 _).mono ho,((((unhide G2).put b0 (by simp) 0 _).put b1 (by simp) 1 _).put b2 (by simp) 2 _).mono ho⟩,e3.fr⟩
theorem rchk_ok (s:Bool) (a b:Option Addr) (n c k l m d:Nat) (h0:0 < m) (hd:0 < d) (hg:Nat.gcd m d = 1) (W:World) (h1:Num W a n m) (h2:Num W b k d) :
  Calls Tryz.prog 20 #[.agg #[.bool s,.slice a n c,.slice b k l]] W fun e W'=>e = .returned (.int .i64 0)∧Below W.heap.size W W':=by
 have hk:0 < k:=by have:=h2.zero; omega
 have hn:0 < n:=by have:=h1.zero; omega
 cases s
 ·exact rk_ok_f a n c m b k l d W hk h1 h2 hg
 ·exact rk_ok_t a n c m b k l d W hk hn h1 h2 hg
theorem rat_c (E F B S I md:Nat) (s ng:Bool) (m d z q K bt fl:Nat) (X:Int) (hfo:Fo E F) (hS:S = 2 ^ (F+E)) (hI:I = (2 ^ E - 1) * 2 ^ F) (hB:B = 2 ^ (E - 1) - 1) (hm:md≤4) (h0:0 < m) (hd:0 < d) (hg:Nat.gcd m d = 1) (bm:blen m≤64) (bd:blen d≤64) (hz:sAns m d = 2 ^ z * (2 * q+1)) (hz2:z≤300) (hX:sExp m d+(z:Int) = X) (hK:blen (2 * q+1) = K) (hbt:bitsR S I md s (rowR B F md s (2 * q+1) K X) = bt) (hfl:flagR B F I md s (2 * q+1) K X = fl)
  (a b:Option Addr) (n c k l:Nat) (w:World) (hT:Tb w) (h1:Num w a n m) (h2:Num w b k d) :
  Calls Tryz.prog 7 #[.agg #[.int .i64 (E:Int),.int .i64 (F:Int)],.agg #[.bool s,.slice a n c,.slice b k l],.bool ng,.int .u8 (md:Int)] w fun e w'=>e = .returned (.tuple #[.int .u64 (bt:Int),.int .u8 (fl:Int),.int .i64 0])∧Below w.heap.size w w':=by
 have:=sratio_is (E:=E) (F:=F) (S:=S) (I:=I) (B:=B) (md:=md) ⟨hfo,hS,hI⟩ hB hm ng s a b n c k l m d w hT h1 h2 (by omega) hd (by omega) (by omega) (by omega) (by omega) (hide fun W q1 q2=>rchk_ok s a b n c k l m d h0 hd hg W q1 q2) z (2 * q+1) K X ⟨q,hz⟩ (by omega) (by rw [hz,Nat.mul_div_cancel_left _ (Nat.pow_pos (by omega))]) hX (by rw [← hK]; exact bl_blen _)
 rw [hbt,hfl] at this
 exact this
theorem Mine.limb {w:World} {B:Nat} {a:Option Addr} {n c m:Nat} (h:Mine w B a n c m) (h0:0 < m) (h1:m < 4294967296):n = 1∧∃ b,a = some ⟨b,0,none⟩∧w.cell? ⟨b,0,none⟩ = some (.int .u32 (m:Int)):=by
 have hn:n = 1:=by
  obtain ⟨xs,hl,-,hw,hN,hv,-⟩:=h
  match xs,hl,hw,hN,hv with
  | [],hl,_,_,hv=>simp [Pl.val] at hv; omega
  | [x],hl,_,_,_=>simpa using hl.symm
  | x :: y :: r,hl,hw,hN,hv=>
   exfalso
   have h3:Pl.val (y :: r)≠0:=by
    intro h4
    have:=Pl.norm_lower (xs:=x :: y :: r) hN (by simp)
    simp only [Pl.val] at this hv h4
    have h5:(4294967296:Nat) ^ 1≤4294967296 ^ ((x :: y :: r).length - 1):=Nat.pow_le_pow_right (by omega) (by simp)
    omega
   simp only [Pl.val] at hv h3
   omega
 refine ⟨hn,?_⟩
 subst hn
 obtain ⟨xs,hl,ho,hw,hN,hv,-⟩:=h
 match xs,hl,ho,hv with
 | [x],_,ho,hv=>
  simp [Pl.val] at hv
  subst hv
  rcases ho with ⟨e,-⟩|⟨g,cap,cur,e,hg,hh,-,-,-,hc⟩
  ·cases e
  ·injection e with e1 e2 e3
   refine ⟨g,e1,?_⟩
   rw [cell_of_row w g 0 _ _ _ hh]
   have:=hc 0 (by simp)
   simpa using this
theorem salive_is (w:World) (hT:Tb w) (hN:Nb5 w) :
  Calls Tryz.prog 5 #[] w fun en w'=>en = .returned (.bool true)∧Below w.heap.size w w':=by
 refine calls_sym Tryz.func5 rfl (by kernel_rfl) fun T hK=>?_
 replace hK:Kn T _ []:=hK
 have hS:=Fb.begin w
 have hG:GsAt [] w:=trivial
 refine wq hS hG hK (fun p1=>[.v 0 (.bool false)]) (fun p1=>[(0,.bool false)]) (fun p1=>?_) (fun p1 W1 T hF hK=>?_)
 ·refine okv ?_
  exact ok_nil
 replace hS:=SymF.fc hS hF [] []
 replace hG:=hF.gx
 clear hF
 refine wq hS hG hK (fun p2=>[.c (some 15) (cH W1.heap.size 1 3 fun x9 y9=>.tuple #[.agg #[.bool true,x9,y9],.int .i64 0]),.v 14 (.tuple #[.agg #[.bool true,.slice (p2 0).A (p2 0).N (p2 0).C,.slice (p2 0).A' (p2 0).N' (p2 0).C'],.int .i64 0]),.v 16 (.agg #[.bool true,.slice (p2 0).A (p2 0).N (p2 0).C,.slice (p2 0).A' (p2 0).N' (p2 0).C']),.v 17 (.int .i64 0),.n 1 #[.bool false,.slice none 0 0,.slice none 0 0] 28,.p 1004 0 [.bool true,.slice (p2 0).A (p2 0).N (p2 0).C,.slice (p2 0).A' (p2 0).N' (p2 0).C'],.v 2 (.int .i64 0)]) (fun p2=>[(0,.bool false),(1,pT (p2 4).N 0),(2,.int .i64 0)]) (fun p2=>?_) (fun p2 W2 T hF hK=>?_)
 ·refine okc (fun W cx=>as_h cx.hb (frac_is true 1 3 (by decide) (by decide) (by decide) (by decide) (by decide) _)) ?_
  iterate 3 refine okv ?_
  refine okn ?_
  refine okp ?_
  refine okv ?_
  exact ok_nil
 replace hS:=SymF.fc hS hF [1004] [⟨(p2 4).N,#[.bool true,.slice (p2 0).A (p2 0).N (p2 0).C,.slice (p2 0).A' (p2 0).N' (p2 0).C'],28,true⟩]
 replace hG:GsAt (gM W1.heap.size (p2 0).A (p2 0).N (p2 0).C 1 :: gM W1.heap.size (p2 0).A' (p2 0).N' (p2 0).C' 3 :: _) W2:=⟨And.left (hF.fx 0),And.right (hF.fx 0),hF.gx⟩
 clear hF
 refine wq hS hG hK (fun p3=>[.c (some 19) (cH W2.heap.size 5 2 fun x9 y9=>.tuple #[.agg #[.bool false,x9,y9],.int .i64 0]),.v 18 (.tuple #[.agg #[.bool false,.slice (p3 0).A (p3 0).N (p3 0).C,.slice (p3 0).A' (p3 0).N' (p3 0).C'],.int .i64 0]),.v 20 (.agg #[.bool false,.slice (p3 0).A (p3 0).N (p3 0).C,.slice (p3 0).A' (p3 0).N' (p3 0).C']),.v 21 (.int .i64 0),.n 3 #[.bool false,.slice none 0 0,.slice none 0 0] 28,.p 1004 0 [.bool false,.slice (p3 0).A (p3 0).N (p3 0).C,.slice (p3 0).A' (p3 0).N' (p3 0).C'],.v 4 (.int .i64 0)]) (fun p3=>[(0,.bool false),(1,pT (p2 4).N 0),(2,.int .i64 0),(3,pT (p3 4).N 0),(4,.int .i64 0)]) (fun p3=>?_) (fun p3 W3 T hF hK=>?_)
 ·refine okc (fun W cx=>as_h cx.hb (frac_is false 5 2 (by decide) (by decide) (by decide) (by decide) (by decide) _)) ?_
  iterate 3 refine okv ?_
  refine okn ?_
  refine okp ?_
  refine okv ?_
  exact ok_nil
 replace hS:=SymF.fc hS hF [0,1004] [⟨(p2 4).N,#[.bool true,.slice (p2 0).A (p2 0).N (p2 0).C,.slice (p2 0).A' (p2 0).N' (p2 0).C'],28,true⟩,⟨(p3 4).N,#[.bool false,.slice (p3 0).A (p3 0).N (p3 0).C,.slice (p3 0).A' (p3 0).N' (p3 0).C'],28,true⟩]
 replace hG:GsAt (gM W2.heap.size (p3 0).A (p3 0).N (p3 0).C 5 :: gM W2.heap.size (p3 0).A' (p3 0).N' (p3 0).C' 2 :: _) W3:=⟨And.left (hF.fx 0),And.right (hF.fx 0),hF.gx⟩
 clear hF
 refine wq hS hG hK (fun p4=>[.v 23 (.agg #[.int .i64 5,.int .i64 10]),.l 24 (.agg #[.bool true,.slice (p2 0).A (p2 0).N (p2 0).C,.slice (p2 0).A' (p2 0).N' (p2 0).C']) 0 0,.c (some 25) (cV (.tuple #[.int .u64 46421,.int .u8 1,.int .i64 0])),.v 22 (.tuple #[.int .u64 46421,.int .u8 1,.int .i64 0]),.v 26 (.int .u64 46421),.v 27 (.int .u8 1),.v 28 (.int .i64 0),.v 5 (.int .u64 46421),.v 6 (.int .u8 1),.v 7 (.int .i64 0)]) (fun p4=>[(0,.bool false),(2,.int .i64 0),(3,pT (p3 4).N 0),(4,.int .i64 0),(5,.int .u64 46421),(6,.int .u8 1),(7,.int .i64 0)]) (fun p4=>?_) (fun p4 W4 T hF hK=>?_)
 ·refine okv ?_
  refine okl ?_
  refine okc (fun W cx=>as_v (rat_c 5 10 15 32768 31744 0 true false 1 3 0 24595658764946068821 66 46421 1 (-67) ⟨by decide,by decide,by decide,by decide⟩ (by decide) (by decide) (by decide) (by decide) (by decide) (by decide) (by decide) (by decide) (by decide) (by kernel_rfl) (by decide) (by kernel_rfl) (by kernel_rfl) (by kernel_rfl) (by kernel_rfl) _ _ _ (p2 0).C _ (p2 0).C' _ (hT.kept cx.fr) (Mine.num cx.G.2.2.1) (Mine.num cx.G.2.2.2.1))) ?_
  iterate 7 refine okv ?_
  exact ok_nil
 replace hS:=SymF.fc hS hF [1] [⟨(p3 4).N,#[.bool false,.slice (p3 0).A (p3 0).N (p3 0).C,.slice (p3 0).A' (p3 0).N' (p3 0).C'],28,true⟩]
 replace hG:=hF.gx
 clear hF
 refine wq hS hG hK (fun p5=>[.l 30 (.agg #[.bool false,.slice (p3 0).A (p3 0).N (p3 0).C,.slice (p3 0).A' (p3 0).N' (p3 0).C']) 0 0,.c (some 31) (cG W4.heap.size 2 fun x9=>.tuple #[.bool false,.agg #[x9],.bool false,.int .i64 0]),.v 29 (.tuple #[.bool false,.agg #[.slice (p5 1).A (p5 1).N (p5 1).C],.bool false,.int .i64 0]),.v 32 (.bool false),.v 33 (.agg #[.slice (p5 1).A (p5 1).N (p5 1).C]),.v 34 (.bool false),.v 35 (.int .i64 0),.n 9 #[.slice none 0 0] 26,.v 8 (.bool false),.p 1007 0 [.slice (p5 1).A (p5 1).N (p5 1).C],.v 10 (.bool false),.v 11 (.int .i64 0)]) (fun p5=>[(0,.bool false),(2,.int .i64 0),(4,.int .i64 0),(5,.int .u64 46421),(6,.int .u8 1),(7,.int .i64 0),(8,.bool false),(9,pT (p5 7).N 0),(10,.bool false),(11,.int .i64 0)]) (fun p5=>?_) (fun p5 W5 T hF hK=>?_)
 ·refine okl ?_
  refine okc (fun W cx=>as_g cx.hb (whole_near _ _ (p3 0).C 5 _ _ (p3 0).C' 2 0 (by decide) 1 2 false (by decide) (by decide) (by decide) (by decide) (by decide) (farther_any 0 false false 0 (by decide) (Or.inr (Or.inl rfl))) _ (Mine.num cx.G.1) (Mine.num cx.G.2.1) (by decide) (hide fun W9 hb9=>rchk_ok false _ _ _ _ _ _ 5 2 (by decide) (by decide) (by decide) W9 (Num.kept (Mine.num cx.G.1) hb9) (Num.kept (Mine.num cx.G.2.1) hb9)))) ?_
  iterate 5 refine okv ?_
  refine okn ?_
  refine okv ?_
  refine okp ?_
  iterate 2 refine okv ?_
  exact ok_nil
 replace hS:=SymF.fc hS hF [1007] [⟨(p5 7).N,#[.slice (p5 1).A (p5 1).N (p5 1).C],26,true⟩]
 replace hG:GsAt (gM W4.heap.size (p5 1).A (p5 1).N (p5 1).C 2 :: _) W5:=⟨hF.fx 1,hF.gx⟩
 clear hF
 refine wq hS hG hK (fun p6=>[.c (some 37) (cV (.tuple #[.int .u8 1,.bool true])),.v 36 (.tuple #[.int .u8 1,.bool true]),.v 38 (.int .u8 1),.v 39 (.bool true),.v 12 (.int .u8 1),.v 13 (.bool true)]) (fun p6=>[(0,.bool false),(2,.int .i64 0),(4,.int .i64 0),(5,.int .u64 46421),(6,.int .u8 1),(7,.int .i64 0),(8,.bool false),(9,pT (p5 7).N 0),(10,.bool false),(11,.int .i64 0),(12,.int .u8 1),(13,.bool true)]) (fun p6=>?_) (fun p6 W6 T hF hK=>?_)
 ·refine okc (fun W cx=>as_v (named_1 ⟨#[97,119,97,121]⟩ _ (hN.kept cx.fr) (by kernel_rfl) (by kernel_rfl))) ?_
  iterate 5 refine okv ?_
  exact ok_nil
 obtain ⟨hS,hG⟩:=SymF.fg hS hF
 clear hF
 obtain ⟨eN,b9,eA,hc9⟩:=Mine.limb hG.1 (by decide) (by decide)
 rw [eA,eN] at hS
 replace hG:GsAt (gL b9 0 2 :: _) W6:=⟨hc9,hG⟩
 refine wq hS hG hK (fun p7=>[.v 40 (.int .i64 0),.v 41 (.bool true),.v 42 (.bool true),.v 43 (.int .i64 0),.v 44 (.bool true),.v 45 (.bool true),.v 46 (.bool true),.v 47 (.int .i64 0),.v 48 (.bool true),.v 49 (.bool true),.v 50 (.bool true),.v 51 (.int .i64 0),.v 52 (.bool true),.v 53 (.bool true),.v 54 (.bool true),.v 55 (.int .u64 46421),.v 56 (.bool true),.v 57 (.bool true),.v 58 (.bool true),.v 59 (.int .u8 1),.v 60 (.bool true),.v 61 (.bool true),.v 62 (.bool true),.v 63 (.bool false),.v 64 (.bool true),.v 65 (.bool true),.v 66 (.bool true),.v 67 (.bool false),.v 68 (.bool true),.v 69 (.bool true),.v 70 (.bool true),.v 71 (pT (p5 7).N 0),.l 72 (.slice (some ⟨b9,0,none⟩) 1 (p5 1).C) 0 0,.v 73 (.int .i64 1),.v 74 (.bool true),.v 75 (.bool true),.v 76 (.bool true),.v 77 (pT (p5 7).N 0),.l 78 (.slice (some ⟨b9,0,none⟩) 1 (p5 1).C) 0 0,.v 79 (.pointer (some ⟨b9,0,none⟩)),.g 80 (.int .u32 2) [.int .u32 2] [.ld ⟨b9,0,none⟩ (.int .u32 2)],.v 81 (.bool true),.v 82 (.bool true),.v 83 (.bool true),.v 84 (.int .u8 1),.v 85 (.bool true),.v 86 (.bool true),.v 87 (.bool true),.v 88 (.bool true),.v 89 (.bool true),.v 0 (.bool true)]) (fun p7=>[(0,.bool true)]) (fun p7=>?_) (fun p7 W7 T hF hK=>?_)
 ·iterate 32 refine okv ?_
  refine okl ?_
  iterate 5 refine okv ?_
  refine okl ?_
  refine okv ?_
  refine ok_g (fun W cx=>⟨⟨cx.G.1,trivial⟩,rfl⟩) (by kernel_rfl) ?_
  iterate 10 refine okv ?_
  exact ok_nil
 replace hS:=SymF.fc hS hF [] []
 replace hG:=hF.gx
 clear hF
 refine wp_ret ?_
 exact sym_end hS hK (.bool true) [] [] (by kernel_rfl) (by kernel_rfl) ⟨rfl,hS.fr⟩
theorem ubx_eq3 (c:Bool) {a b:Nat} (h:a = b):(((bif c then a else b:Nat):Int) != (b:Int)) = false:=by
 subst h; cases c <;> exact bne_self_eq_false _
theorem sides_no (w:World) (E F:Int) (s:Bool) (a1 a2:Option Addr) (n1 n2 c1 c2:Nat) (hT:Tb w) (hN:Nb5 w) (HA:Hid (∀ W:World,Below w.heap.size w W→Calls Tryz.prog 6 #[.agg #[.int .i64 E,.int .i64 F],.agg #[.bool s,.slice a1 n1 c1,.slice a2 n2 c2]] W fun e W'=>e = .returned (.bool false)∧Below W.heap.size W W')) :
  Calls Tryz.prog 3 #[.agg #[.int .i64 E,.int .i64 F],.agg #[.bool s,.slice a1 n1 c1,.slice a2 n2 c2]] w fun en w'=>en = .returned (.bool true)∧Below w.heap.size w w':=by
 refine calls_sym Tryz.func3 rfl (by kernel_rfl) fun T hK=>?_
 replace hK:Kn T _ [(0,.agg #[.int .i64 E,.int .i64 F]),(1,.agg #[.bool s,.slice a1 n1 c1,.slice a2 n2 c2])]:=hK
 have hS:=Fb.begin w
 have hG:GsAt [] w:=trivial
 refine wq hS hG hK (fun p1=>[.n 2 #[.int .i64 E,.int .i64 F] 23,.n 3 #[.bool s,.slice a1 n1 c1,.slice a2 n2 c2] 28,.v 4 (.bool false)]) (fun p1=>[(2,pT (p1 0).N 0),(3,pT (p1 1).N 0),(4,.bool false)]) (fun p1=>?_) (fun p1 W1 T hF hK=>?_)
 ·iterate 2 refine okn ?_
  refine okv ?_
  exact ok_nil
 replace hS:=SymF.fc hS hF [1000,1001] [⟨(p1 0).N,#[.int .i64 E,.int .i64 F],23,true⟩,⟨(p1 1).N,#[.bool s,.slice a1 n1 c1,.slice a2 n2 c2],28,true⟩]
 replace hG:=hF.gx
 clear hF
 refine wq hS hG hK (fun p2=>[.c (some 25) (cV (.bool true)),.v 5 (.bool true)]) (fun p2=>[(2,pT (p1 0).N 0),(3,pT (p1 1).N 0),(4,.bool false),(5,.bool true)]) (fun p2=>?_) (fun p2 W2 T hF hK=>?_)
 ·refine okc (fun W cx=>as_v (salive_is _ (hT.kept cx.fr) (hN.kept cx.fr))) ?_
  refine okv ?_
  exact ok_nil
 obtain ⟨hS,hG⟩:=SymF.fg hS hF
 clear hF
 refine wq hS hG hK (fun p3=>[.l 26 (.agg #[.int .i64 E,.int .i64 F]) 0 0,.l 27 (.agg #[.bool s,.slice a1 n1 c1,.slice a2 n2 c2]) 1 0,.c (some 28) (cV (.bool false)),.v 6 (.bool false)]) (fun p3=>[(2,pT (p1 0).N 0),(3,pT (p1 1).N 0),(4,.bool false),(5,.bool true),(6,.bool false)]) (fun p3=>?_) (fun p3 W3 T hF hK=>?_)
 ·iterate 2 refine okl ?_
  refine okc (fun W cx=>as_v (unhide HA _ cx.fr)) ?_
  refine okv ?_
  exact ok_nil
 obtain ⟨hS,hG⟩:=SymF.fg hS hF
 clear hF
 refine wp_seq ?_
 refine wq hS hG hK (fun p4=>[.v 29 (.bool false),.v 30 (.bool true)]) (fun p4=>[(2,pT (p1 0).N 0),(3,pT (p1 1).N 0),(4,.bool false),(5,.bool true),(30,.bool true)]) (fun p4=>?_) (fun p4 W4 T hF hK=>?_)
 ·iterate 2 refine okv ?_
  exact ok_nil
 obtain ⟨hS,hG⟩:=SymF.fg hS hF
 clear hF
 refine wp_cond_true (hK.ew 30) ?_
 refine wq hS hG hK (fun p5=>[.v 31 (.bool true),.v 4 (.bool true)]) (fun p5=>[(2,pT (p1 0).N 0),(3,pT (p1 1).N 0),(4,.bool true),(5,.bool true)]) (fun p5=>?_) (fun p5 W5 T hF hK=>?_)
 ·iterate 2 refine okv ?_
  exact ok_nil
 obtain ⟨hS,hG⟩:=SymF.fg hS hF
 clear hF
 refine wp_ret ?_
 refine then_r ?_
 exact sym_end hS hK (.bool true) [] [] (by kernel_rfl) (by kernel_rfl) ⟨rfl,hS.fr⟩
theorem sides_all (w:World) (E F:Int) (s:Bool) (a1 a2:Option Addr) (n1 n2 c1 c2:Nat) (p d:Nat) (cA cB own:Bool) (u3 u4 g0 g1 g2 g3 g4:Nat) (k k3:Int) (one two:Bool) (va da vb db:Nat) (sa sb:Bool) (hT:Tb w) (hN:Nb5 w) (HA:Hid (∀ W:World,Below w.heap.size w W→Calls Tryz.prog 6 #[.agg #[.int .i64 E,.int .i64 F],.agg #[.bool s,.slice a1 n1 c1,.slice a2 n2 c2]] W fun e W'=>e = .returned (.bool true)∧Below W.heap.size W W')) (h1:Num w a1 n1 p) (h2:Num w a2 n2 d) (HR0:Hid (∀ W:World,Below w.heap.size w W→Calls Tryz.prog 7 #[.agg #[.int .i64 E,.int .i64 F],.agg #[.bool s,.slice a1 n1 c1,.slice a2 n2 c2],.bool s,.int .u8 0] W fun e W'=>e = .returned (.tuple #[ubx cA u3 u4,.int .u8 (g0:Int),.int .i64 0])∧Below W.heap.size W W')) (HR1:Hid (∀ W:World,Below w.heap.size w W→Calls Tryz.prog 7 #[.agg #[.int .i64 E,.int .i64 F],.agg #[.bool s,.slice a1 n1 c1,.slice a2 n2 c2],.bool s,.int .u8 1] W fun e W'=>e = .returned (.tuple #[ubx cB u3 u4,.int .u8 (g1:Int),.int .i64 0])∧Below W.heap.size W W')) (HR2:Hid (∀ W:World,Below w.heap.size w W→Calls Tryz.prog 7 #[.agg #[.int .i64 E,.int .i64 F],.agg #[.bool s,.slice a1 n1 c1,.slice a2 n2 c2],.bool s,.int .u8 2] W fun e W'=>e = .returned (.tuple #[ubx s u3 u4,.int .u8 (g2:Int),.int .i64 0])∧Below W.heap.size W W')) (HR3:Hid (∀ W:World,Below w.heap.size w W→Calls Tryz.prog 7 #[.agg #[.int .i64 E,.int .i64 F],.agg #[.bool s,.slice a1 n1 c1,.slice a2 n2 c2],.bool s,.int .u8 3] W fun e W'=>e = .returned (.tuple #[.int .u64 (u3:Int),.int .u8 (g3:Int),.int .i64 0])∧Below W.heap.size W W')) (HR4:Hid (∀ W:World,Below w.heap.size w W→Calls Tryz.prog 7 #[.agg #[.int .i64 E,.int .i64 F],.agg #[.bool s,.slice a1 n1 c1,.slice a2 n2 c2],.bool s,.int .u8 4] W fun e W'=>e = .returned (.tuple #[.int .u64 (u4:Int),.int .u8 (g4:Int),.int .i64 0])∧Below W.heap.size W W')) (HK4:Hid (∀ W:World,Below w.heap.size w W→Calls Tryz.prog 8 #[.agg #[.int .i64 E,.int .i64 F],.int .u64 (u4:Int)] W fun e W'=>e = .returned (.int .i64 k)∧Below W.heap.size W W')) (HK3:Hid (∀ W:World,Below w.heap.size w W→Calls Tryz.prog 8 #[.agg #[.int .i64 E,.int .i64 F],.int .u64 (u3:Int)] W fun e W'=>e = .returned (.int .i64 k3)∧Below W.heap.size W W')) (hk0:k≤k3) (hk1:k3≤k+1) (hot:(one || two) = true) (hown:own = true→one = true∧u3 = u4∧k3 = k∧g0 = 0∧g1 = 0∧g2 = 0∧g3 = 0∧g4 = 0) (hap:own = false→u3≠u4∧k3 = k+1∧(g0≠0∧g1≠0∧g2≠0∧g3≠0∧g4≠0)∧bits BinOp.and .u8 (g0:Int) 1 = 1∧bits BinOp.and .u8 (g1:Int) 1 = 1∧bits BinOp.and .u8 (g2:Int) 1 = 1∧bits BinOp.and .u8 (g3:Int) 1 = 1∧bits BinOp.and .u8 (g4:Int) 1 = 1) (HW4:Hid (∀ W:World,Below w.heap.size w W→Calls Tryz.prog 9 #[.agg #[.int .i64 E,.int .i64 F],.int .u64 (u4:Int)] W fun en W'=>(∃ A N C A' N' C',en = .returned (.tuple #[.agg #[.bool sa,.slice A N C,.slice A' N' C'],.bool one])∧Mine W' W.heap.size A N C va∧Mine W' W.heap.size A' N' C' da)∧Below W.heap.size W W')) (HW3:Hid (∀ W:World,Below w.heap.size w W→Calls Tryz.prog 9 #[.agg #[.int .i64 E,.int .i64 F],.int .u64 (u3:Int)] W fun en W'=>(∃ A N C A' N' C',en = .returned (.tuple #[.agg #[.bool sb,.slice A N C,.slice A' N' C'],.bool two])∧Mine W' W.heap.size A N C vb∧Mine W' W.heap.size A' N' C' db)∧Below W.heap.size W W')) (HE:Hid (own = true→∀ (W:World) (A:Option Addr) (N C:Nat) (A':Option Addr) (N' C':Nat),Below w.heap.size w W→Num W A N va→Num W A' N' da→Calls Tryz.prog 10 #[.agg #[.bool sa,.slice A N C,.slice A' N' C'],.agg #[.bool s,.slice a1 n1 c1,.slice a2 n2 c2]] W fun en W'=>en = .returned (.bool true)∧Below W.heap.size W W')) (HCa:Hid (own = false→one = true→∀ (W:World) (A:Option Addr) (N C:Nat) (A':Option Addr) (N' C':Nat),Below w.heap.size w W→Num W A N va→Num W A' N' da→Calls Tryz.prog 11 #[.agg #[.bool sa,.slice A N C,.slice A' N' C'],.agg #[.bool s,.slice a1 n1 c1,.slice a2 n2 c2]] W fun en W'=>en = .returned (.tuple #[.int .i64 (-1),.int .i64 0])∧Below W.heap.size W W')) (HCb:Hid (own = false→two = true→∀ (W:World) (A:Option Addr) (N C:Nat) (A':Option Addr) (N' C':Nat),Below w.heap.size w W→Num W A N vb→Num W A' N' db→Calls Tryz.prog 11 #[.agg #[.bool s,.slice a1 n1 c1,.slice a2 n2 c2],.agg #[.bool sb,.slice A N C,.slice A' N' C']] W fun en W'=>en = .returned (.tuple #[.int .i64 (-1),.int .i64 0])∧Below W.heap.size W W')) (HH:Hid (own = false→one = true→two = true→∀ (W:World) (A:Option Addr) (N C:Nat) (A':Option Addr) (N' C':Nat) (A2:Option Addr) (N2 C2:Nat) (A2':Option Addr) (N2' C2':Nat),Below w.heap.size w W→Num W A N va→Num W A' N' da→Num W A2 N2 vb→Num W A2' N2' db→Calls Tryz.prog 12 #[.agg #[.bool s,.slice a1 n1 c1,.slice a2 n2 c2],.agg #[.bool sa,.slice A N C,.slice A' N' C'],.agg #[.bool sb,.slice A2 N2 C2,.slice A2' N2' C2'],.agg #[ubx cA u3 u4,ubx cB u3 u4,ubx s u3 u4,.int .u64 (u3:Int),.int .u64 (u4:Int)]] W fun en W'=>en = .returned (.bool true)∧Below W.heap.size W W')) :
  Calls Tryz.prog 3 #[.agg #[.int .i64 E,.int .i64 F],.agg #[.bool s,.slice a1 n1 c1,.slice a2 n2 c2]] w fun en w'=>en = .returned (.bool true)∧Below w.heap.size w w':=by
 refine calls_sym Tryz.func3 rfl (by kernel_rfl) fun T hK=>?_
 replace hK:Kn T _ [(0,.agg #[.int .i64 E,.int .i64 F]),(1,.agg #[.bool s,.slice a1 n1 c1,.slice a2 n2 c2])]:=hK
 have hS:=Fb.begin w
 have hG:GsAt [gN a1 n1 p,gN a2 n2 d] w:=⟨h1,h2,trivial⟩
 refine wq hS hG hK (fun p1=>[.n 2 #[.int .i64 E,.int .i64 F] 23,.n 3 #[.bool s,.slice a1 n1 c1,.slice a2 n2 c2] 28,.v 4 (.bool false)]) (fun p1=>[(2,pT (p1 0).N 0),(3,pT (p1 1).N 0),(4,.bool false)]) (fun p1=>?_) (fun p1 W1 T hF hJ=>?_)
 ·iterate 2 refine okn ?_
  refine okv ?_
  exact ok_nil
 replace hS:=SymF.fc hS hF [1000,1001] [⟨(p1 0).N,#[.int .i64 E,.int .i64 F],23,true⟩,⟨(p1 1).N,#[.bool s,.slice a1 n1 c1,.slice a2 n2 c2],28,true⟩]
 replace hG:=hF.gx
 clear hF hK
 have hK:=hJ
 clear hJ
 refine wq hS hG hK (fun p2=>[.c (some 25) (cV (.bool true)),.v 5 (.bool true)]) (fun p2=>[(2,pT (p1 0).N 0),(3,pT (p1 1).N 0),(4,.bool false),(5,.bool true)]) (fun p2=>?_) (fun p2 W2 T hF hJ=>?_)
 ·refine okc (fun W cx=>as_v (salive_is _ (hT.kept cx.fr) (hN.kept cx.fr))) ?_
  refine okv ?_
  exact ok_nil
 replace hS:=SymF.fd hS hF
 replace hG:=hF.gx
 clear hF hK
 have hK:=hJ
 clear hJ
 refine wq hS hG hK (fun p3=>[.l 26 (.agg #[.int .i64 E,.int .i64 F]) 0 0,.l 27 (.agg #[.bool s,.slice a1 n1 c1,.slice a2 n2 c2]) 1 0,.c (some 28) (cV (.bool true)),.v 6 (.bool true)]) (fun p3=>[(2,pT (p1 0).N 0),(3,pT (p1 1).N 0),(4,.bool false),(5,.bool true),(6,.bool true)]) (fun p3=>?_) (fun p3 W3 T hF hJ=>?_)
 ·iterate 2 refine okl ?_
  refine okc (fun W cx=>as_v (unhide HA _ cx.fr)) ?_
  refine okv ?_
  exact ok_nil
 replace hS:=SymF.fd hS hF
 replace hG:=hF.gx
 clear hF hK
 have hK:=hJ
 clear hJ
 refine wp_seq ?_
 refine wq hS hG hK (fun p4=>[.v 29 (.bool true),.v 30 (.bool false)]) (fun p4=>[(2,pT (p1 0).N 0),(3,pT (p1 1).N 0),(4,.bool false),(5,.bool true),(30,.bool false)]) (fun p4=>?_) (fun p4 W4 T hF hJ=>?_)
 ·iterate 2 refine okv ?_
  exact ok_nil
 replace hS:=SymF.fd hS hF
 replace hG:=hF.gx
 clear hF hK
 have hK:=hJ
 clear hJ
 refine wp_cond_false (hK.ew 30) (wp_skip (then_n ?_))
 refine wq hS hG hK (fun p5=>[.n 7 #[.int .u64 0,.int .u64 0,.int .u64 0,.int .u64 0,.int .u64 0] 32]) (fun p5=>[(2,pT (p1 0).N 0),(3,pT (p1 1).N 0),(4,.bool false),(5,.bool true),(7,pT (p5 0).N 0)]) (fun p5=>?_) (fun p5 W5 T hF hJ=>?_)
 ·refine okn ?_
  exact ok_nil
 replace hS:=SymF.fc hS hF [0,1,1000] [⟨(p1 0).N,#[.int .i64 E,.int .i64 F],23,true⟩,⟨(p1 1).N,#[.bool s,.slice a1 n1 c1,.slice a2 n2 c2],28,true⟩,⟨(p5 0).N,#[.int .u64 0,.int .u64 0,.int .u64 0,.int .u64 0,.int .u64 0],32,true⟩]
 replace hG:=hF.gx
 clear hF hK
 have hK:=hJ
 clear hJ
 refine wq hS hG hK (fun p6=>[.n 8 #[.int .u8 0,.int .u8 0,.int .u8 0,.int .u8 0,.int .u8 0] 33]) (fun p6=>[(2,pT (p1 0).N 0),(3,pT (p1 1).N 0),(4,.bool false),(5,.bool true),(7,pT (p5 0).N 0),(8,pT (p6 0).N 0)]) (fun p6=>?_) (fun p6 W6 T hF hJ=>?_)
 ·refine okn ?_
  exact ok_nil
 replace hS:=SymF.fc hS hF [0,1,2,1000] [⟨(p1 0).N,#[.int .i64 E,.int .i64 F],23,true⟩,⟨(p1 1).N,#[.bool s,.slice a1 n1 c1,.slice a2 n2 c2],28,true⟩,⟨(p5 0).N,#[.int .u64 0,.int .u64 0,.int .u64 0,.int .u64 0,.int .u64 0],32,true⟩,⟨(p6 0).N,#[.int .u8 0,.int .u8 0,.int .u8 0,.int .u8 0,.int .u8 0],33,true⟩]
 replace hG:=hF.gx
 clear hF hK
 have hK:=hJ
 clear hJ
 refine wp_seq ?_
 refine wq hS hG hK (fun p7=>[.v 9 (.int .u8 0)]) (fun p7=>[(2,pT (p1 0).N 0),(3,pT (p1 1).N 0),(4,.bool false),(5,.bool true),(7,pT (p5 0).N 0),(8,pT (p6 0).N 0),(9,.int .u8 0)]) (fun p7=>?_) (fun p7 W7 T hF hJ=>?_)
 ·refine okv ?_
  exact ok_nil
 replace hS:=SymF.fd hS hF
 replace hG:=hF.gx
 clear hF hK
 have hK:=hJ
 clear hJ
 refine wp_block (wp_loop_rounds 6 ?_)
 refine rounds_s (wp_seq ?_)
 refine wq hS hG hK (fun p8=>[.v 32 (.int .u8 0),.v 33 (.bool true)]) (fun p8=>[(2,pT (p1 0).N 0),(3,pT (p1 1).N 0),(4,.bool false),(5,.bool true),(7,pT (p5 0).N 0),(8,pT (p6 0).N 0),(9,.int .u8 0),(33,.bool true)]) (fun p8=>?_) (fun p8 W8 T hF hJ=>?_)
 ·iterate 2 refine okv ?_
  exact ok_nil
 replace hS:=SymF.fd hS hF
 replace hG:=hF.gx
 clear hF hK
 have hK:=hJ
 clear hJ
 refine wp_cond_true (hK.ew 33) (wp_skip ?_)
 refine then_n (wp_seq (wp_block ?_))
 refine wq hS hG hK (fun p9=>[.l 37 (.agg #[.int .i64 E,.int .i64 F]) 0 0,.l 38 (.agg #[.bool s,.slice a1 n1 c1,.slice a2 n2 c2]) 1 0,.v 39 (pT (p1 1).N 0),.l 40 (.bool s) 1 0,.v 41 (.int .u8 0),.c (some 42) (cV (.tuple #[ubx cA u3 u4,.int .u8 (g0:Int),.int .i64 0])),.v 36 (.tuple #[ubx cA u3 u4,.int .u8 (g0:Int),.int .i64 0]),.v 43 (ubx cA u3 u4),.v 44 (.int .u8 (g0:Int)),.v 45 (.int .i64 0),.v 10 (ubx cA u3 u4),.v 11 (.int .u8 (g0:Int)),.v 12 (.int .i64 0)]) (fun p9=>[(2,pT (p1 0).N 0),(3,pT (p1 1).N 0),(4,.bool false),(5,.bool true),(7,pT (p5 0).N 0),(8,pT (p6 0).N 0),(9,.int .u8 0),(10,ubx cA u3 u4),(11,.int .u8 (g0:Int)),(12,.int .i64 0)]) (fun p9=>?_) (fun p9 W9 T hF hJ=>?_)
 ·iterate 2 refine okl ?_
  refine okv ?_
  refine okl ?_
  refine okv ?_
  refine okc (fun W cx=>as_v (unhide HR0 _ cx.fr)) ?_
  iterate 7 refine okv ?_
  exact ok_nil
 replace hS:=SymF.fd hS hF
 replace hG:=hF.gx
 clear hF hK
 have hK:=hJ
 clear hJ
 refine wp_seq ?_
 refine wq hS hG hK (fun p10=>[.v 46 (.int .i64 0),.v 47 (.bool false)]) (fun p10=>[(2,pT (p1 0).N 0),(3,pT (p1 1).N 0),(4,.bool false),(5,.bool true),(7,pT (p5 0).N 0),(8,pT (p6 0).N 0),(9,.int .u8 0),(10,ubx cA u3 u4),(11,.int .u8 (g0:Int)),(12,.int .i64 0),(47,.bool false)]) (fun p10=>?_) (fun p10 W10 T hF hJ=>?_)
 ·iterate 2 refine okv ?_
  exact ok_nil
 replace hS:=SymF.fd hS hF
 replace hG:=hF.gx
 clear hF hK
 have hK:=hJ
 clear hJ
 refine wp_cond_false (hK.ew 47) (wp_skip (then_n ?_))
 refine wq hS hG hK (fun p11=>[.v 48 (.int .u8 0),.v 49 (ubx cA u3 u4),.v 50 (pT (p5 0).N 0),.p 2 0 [ubx cA u3 u4]]) (fun p11=>[(2,pT (p1 0).N 0),(3,pT (p1 1).N 0),(4,.bool false),(5,.bool true),(7,pT (p5 0).N 0),(8,pT (p6 0).N 0),(9,.int .u8 0),(10,ubx cA u3 u4),(11,.int .u8 (g0:Int)),(12,.int .i64 0)]) (fun p11=>?_) (fun p11 W11 T hF hJ=>?_)
 ·iterate 3 refine okv ?_
  refine okp ?_
  exact ok_nil
 replace hS:=SymF.fc hS hF [0,1,2,3] [⟨(p1 0).N,#[.int .i64 E,.int .i64 F],23,true⟩,⟨(p1 1).N,#[.bool s,.slice a1 n1 c1,.slice a2 n2 c2],28,true⟩,⟨(p5 0).N,#[ubx cA u3 u4,.int .u64 0,.int .u64 0,.int .u64 0,.int .u64 0],32,true⟩,⟨(p6 0).N,#[.int .u8 0,.int .u8 0,.int .u8 0,.int .u8 0,.int .u8 0],33,true⟩]
 replace hG:=hF.gx
 clear hF hK
 have hK:=hJ
 clear hJ
 refine wg hS hG hK (fun p12=>[.v 51 (.int .u8 0),.v 52 (.int .u8 (g0:Int)),.v 53 (pT (p6 0).N 0),.p 3 0 [.int .u8 (g0:Int)]]) (fun p12=>[(2,pT (p1 0).N 0),(3,pT (p1 1).N 0),(4,.bool false),(5,.bool true),(7,pT (p5 0).N 0),(8,pT (p6 0).N 0),(9,.int .u8 0),(10,ubx cA u3 u4),(11,.int .u8 (g0:Int)),(12,.int .i64 0)]) (fun p12=>?_) (fun p12 W12 T hF hJ=>?_)
 ·iterate 3 refine okv ?_
  refine okp ?_
  exact ok_nil
 replace hS:=SymF.fc hS hF [0,1,2,3] [⟨(p1 0).N,#[.int .i64 E,.int .i64 F],23,true⟩,⟨(p1 1).N,#[.bool s,.slice a1 n1 c1,.slice a2 n2 c2],28,true⟩,⟨(p5 0).N,#[ubx cA u3 u4,.int .u64 0,.int .u64 0,.int .u64 0,.int .u64 0],32,true⟩,⟨(p6 0).N,#[.int .u8 (g0:Int),.int .u8 0,.int .u8 0,.int .u8 0,.int .u8 0],33,true⟩]
 replace hG:=hF.gx
 clear hF hK
 have hK:=hJ
 clear hJ
 refine inb_n (then_n ?_)
 refine wg hS hG hK (fun p13=>[.v 34 (.int .u8 0),.v 35 (.int .u8 1),.v 9 (.int .u8 1)]) (fun p13=>[(2,pT (p1 0).N 0),(3,pT (p1 1).N 0),(4,.bool false),(5,.bool true),(7,pT (p5 0).N 0),(8,pT (p6 0).N 0),(9,.int .u8 1),(10,ubx cA u3 u4),(11,.int .u8 (g0:Int)),(12,.int .i64 0)]) (fun p13=>?_) (fun p13 W13 T hF hJ=>?_)
 ·iterate 3 refine okv ?_
  exact ok_nil
 replace hS:=SymF.fd hS hF
 replace hG:=hF.gx
 clear hF hK
 have hK:=hJ
 clear hJ
 refine then_n (rounds_s (wp_seq ?_))
 refine wq hS hG hK (fun p14=>[.v 32 (.int .u8 1),.v 33 (.bool true)]) (fun p14=>[(2,pT (p1 0).N 0),(3,pT (p1 1).N 0),(4,.bool false),(5,.bool true),(7,pT (p5 0).N 0),(8,pT (p6 0).N 0),(9,.int .u8 1),(10,ubx cA u3 u4),(11,.int .u8 (g0:Int)),(12,.int .i64 0),(33,.bool true)]) (fun p14=>?_) (fun p14 W14 T hF hJ=>?_)
 ·iterate 2 refine okv ?_
  exact ok_nil
 replace hS:=SymF.fd hS hF
 replace hG:=hF.gx
 clear hF hK
 have hK:=hJ
 clear hJ
 refine wp_cond_true (hK.ew 33) (wp_skip ?_)
 refine then_n (wp_seq (wp_block ?_))
 refine wq hS hG hK (fun p15=>[.l 37 (.agg #[.int .i64 E,.int .i64 F]) 0 0,.l 38 (.agg #[.bool s,.slice a1 n1 c1,.slice a2 n2 c2]) 1 0,.v 39 (pT (p1 1).N 0),.l 40 (.bool s) 1 0,.v 41 (.int .u8 1),.c (some 42) (cV (.tuple #[ubx cB u3 u4,.int .u8 (g1:Int),.int .i64 0])),.v 36 (.tuple #[ubx cB u3 u4,.int .u8 (g1:Int),.int .i64 0]),.v 43 (ubx cB u3 u4),.v 44 (.int .u8 (g1:Int)),.v 45 (.int .i64 0),.v 10 (ubx cB u3 u4),.v 11 (.int .u8 (g1:Int)),.v 12 (.int .i64 0)]) (fun p15=>[(2,pT (p1 0).N 0),(3,pT (p1 1).N 0),(4,.bool false),(5,.bool true),(7,pT (p5 0).N 0),(8,pT (p6 0).N 0),(9,.int .u8 1),(10,ubx cB u3 u4),(11,.int .u8 (g1:Int)),(12,.int .i64 0)]) (fun p15=>?_) (fun p15 W15 T hF hJ=>?_)
 ·iterate 2 refine okl ?_
  refine okv ?_
  refine okl ?_
  refine okv ?_
  refine okc (fun W cx=>as_v (unhide HR1 _ cx.fr)) ?_
  iterate 7 refine okv ?_
  exact ok_nil
 replace hS:=SymF.fd hS hF
 replace hG:=hF.gx
 clear hF hK
 have hK:=hJ
 clear hJ
 refine wp_seq ?_
 refine wq hS hG hK (fun p16=>[.v 46 (.int .i64 0),.v 47 (.bool false)]) (fun p16=>[(2,pT (p1 0).N 0),(3,pT (p1 1).N 0),(4,.bool false),(5,.bool true),(7,pT (p5 0).N 0),(8,pT (p6 0).N 0),(9,.int .u8 1),(10,ubx cB u3 u4),(11,.int .u8 (g1:Int)),(12,.int .i64 0),(47,.bool false)]) (fun p16=>?_) (fun p16 W16 T hF hJ=>?_)
 ·iterate 2 refine okv ?_
  exact ok_nil
 replace hS:=SymF.fd hS hF
 replace hG:=hF.gx
 clear hF hK
 have hK:=hJ
 clear hJ
 refine wp_cond_false (hK.ew 47) (wp_skip (then_n ?_))
 refine wq hS hG hK (fun p17=>[.v 48 (.int .u8 1),.v 49 (ubx cB u3 u4),.v 50 (pT (p5 0).N 1),.p 2 1 [ubx cB u3 u4]]) (fun p17=>[(2,pT (p1 0).N 0),(3,pT (p1 1).N 0),(4,.bool false),(5,.bool true),(7,pT (p5 0).N 0),(8,pT (p6 0).N 0),(9,.int .u8 1),(10,ubx cB u3 u4),(11,.int .u8 (g1:Int)),(12,.int .i64 0)]) (fun p17=>?_) (fun p17 W17 T hF hJ=>?_)
 ·iterate 3 refine okv ?_
  refine okp ?_
  exact ok_nil
 replace hS:=SymF.fc hS hF [0,1,2,3] [⟨(p1 0).N,#[.int .i64 E,.int .i64 F],23,true⟩,⟨(p1 1).N,#[.bool s,.slice a1 n1 c1,.slice a2 n2 c2],28,true⟩,⟨(p5 0).N,#[ubx cA u3 u4,ubx cB u3 u4,.int .u64 0,.int .u64 0,.int .u64 0],32,true⟩,⟨(p6 0).N,#[.int .u8 (g0:Int),.int .u8 0,.int .u8 0,.int .u8 0,.int .u8 0],33,true⟩]
 replace hG:=hF.gx
 clear hF hK
 have hK:=hJ
 clear hJ
 refine wg hS hG hK (fun p18=>[.v 51 (.int .u8 1),.v 52 (.int .u8 (g1:Int)),.v 53 (pT (p6 0).N 1),.p 3 1 [.int .u8 (g1:Int)]]) (fun p18=>[(2,pT (p1 0).N 0),(3,pT (p1 1).N 0),(4,.bool false),(5,.bool true),(7,pT (p5 0).N 0),(8,pT (p6 0).N 0),(9,.int .u8 1),(10,ubx cB u3 u4),(11,.int .u8 (g1:Int)),(12,.int .i64 0)]) (fun p18=>?_) (fun p18 W18 T hF hJ=>?_)
 ·iterate 3 refine okv ?_
  refine okp ?_
  exact ok_nil
 replace hS:=SymF.fc hS hF [0,1,2,3] [⟨(p1 0).N,#[.int .i64 E,.int .i64 F],23,true⟩,⟨(p1 1).N,#[.bool s,.slice a1 n1 c1,.slice a2 n2 c2],28,true⟩,⟨(p5 0).N,#[ubx cA u3 u4,ubx cB u3 u4,.int .u64 0,.int .u64 0,.int .u64 0],32,true⟩,⟨(p6 0).N,#[.int .u8 (g0:Int),.int .u8 (g1:Int),.int .u8 0,.int .u8 0,.int .u8 0],33,true⟩]
 replace hG:=hF.gx
 clear hF hK
 have hK:=hJ
 clear hJ
 refine inb_n (then_n ?_)
 refine wg hS hG hK (fun p19=>[.v 34 (.int .u8 1),.v 35 (.int .u8 2),.v 9 (.int .u8 2)]) (fun p19=>[(2,pT (p1 0).N 0),(3,pT (p1 1).N 0),(4,.bool false),(5,.bool true),(7,pT (p5 0).N 0),(8,pT (p6 0).N 0),(9,.int .u8 2),(10,ubx cB u3 u4),(11,.int .u8 (g1:Int)),(12,.int .i64 0)]) (fun p19=>?_) (fun p19 W19 T hF hJ=>?_)
 ·iterate 3 refine okv ?_
  exact ok_nil
 replace hS:=SymF.fd hS hF
 replace hG:=hF.gx
 clear hF hK
 have hK:=hJ
 clear hJ
 refine then_n (rounds_s (wp_seq ?_))
 refine wq hS hG hK (fun p20=>[.v 32 (.int .u8 2),.v 33 (.bool true)]) (fun p20=>[(2,pT (p1 0).N 0),(3,pT (p1 1).N 0),(4,.bool false),(5,.bool true),(7,pT (p5 0).N 0),(8,pT (p6 0).N 0),(9,.int .u8 2),(10,ubx cB u3 u4),(11,.int .u8 (g1:Int)),(12,.int .i64 0),(33,.bool true)]) (fun p20=>?_) (fun p20 W20 T hF hJ=>?_)
 ·iterate 2 refine okv ?_
  exact ok_nil
 replace hS:=SymF.fd hS hF
 replace hG:=hF.gx
 clear hF hK
 have hK:=hJ
 clear hJ
 refine wp_cond_true (hK.ew 33) (wp_skip ?_)
 refine then_n (wp_seq (wp_block ?_))
 refine wq hS hG hK (fun p21=>[.l 37 (.agg #[.int .i64 E,.int .i64 F]) 0 0,.l 38 (.agg #[.bool s,.slice a1 n1 c1,.slice a2 n2 c2]) 1 0,.v 39 (pT (p1 1).N 0),.l 40 (.bool s) 1 0,.v 41 (.int .u8 2),.c (some 42) (cV (.tuple #[ubx s u3 u4,.int .u8 (g2:Int),.int .i64 0])),.v 36 (.tuple #[ubx s u3 u4,.int .u8 (g2:Int),.int .i64 0]),.v 43 (ubx s u3 u4),.v 44 (.int .u8 (g2:Int)),.v 45 (.int .i64 0),.v 10 (ubx s u3 u4),.v 11 (.int .u8 (g2:Int)),.v 12 (.int .i64 0)]) (fun p21=>[(2,pT (p1 0).N 0),(3,pT (p1 1).N 0),(4,.bool false),(5,.bool true),(7,pT (p5 0).N 0),(8,pT (p6 0).N 0),(9,.int .u8 2),(10,ubx s u3 u4),(11,.int .u8 (g2:Int)),(12,.int .i64 0)]) (fun p21=>?_) (fun p21 W21 T hF hJ=>?_)
 ·iterate 2 refine okl ?_
  refine okv ?_
  refine okl ?_
  refine okv ?_
  refine okc (fun W cx=>as_v (unhide HR2 _ cx.fr)) ?_
  iterate 7 refine okv ?_
  exact ok_nil
 replace hS:=SymF.fd hS hF
 replace hG:=hF.gx
 clear hF hK
 have hK:=hJ
 clear hJ
 refine wp_seq ?_
 refine wq hS hG hK (fun p22=>[.v 46 (.int .i64 0),.v 47 (.bool false)]) (fun p22=>[(2,pT (p1 0).N 0),(3,pT (p1 1).N 0),(4,.bool false),(5,.bool true),(7,pT (p5 0).N 0),(8,pT (p6 0).N 0),(9,.int .u8 2),(10,ubx s u3 u4),(11,.int .u8 (g2:Int)),(12,.int .i64 0),(47,.bool false)]) (fun p22=>?_) (fun p22 W22 T hF hJ=>?_)
 ·iterate 2 refine okv ?_
  exact ok_nil
 replace hS:=SymF.fd hS hF
 replace hG:=hF.gx
 clear hF hK
 have hK:=hJ
 clear hJ
 refine wp_cond_false (hK.ew 47) (wp_skip (then_n ?_))
 refine wq hS hG hK (fun p23=>[.v 48 (.int .u8 2),.v 49 (ubx s u3 u4),.v 50 (pT (p5 0).N 2),.p 2 2 [ubx s u3 u4]]) (fun p23=>[(2,pT (p1 0).N 0),(3,pT (p1 1).N 0),(4,.bool false),(5,.bool true),(7,pT (p5 0).N 0),(8,pT (p6 0).N 0),(9,.int .u8 2),(10,ubx s u3 u4),(11,.int .u8 (g2:Int)),(12,.int .i64 0)]) (fun p23=>?_) (fun p23 W23 T hF hJ=>?_)
 ·iterate 3 refine okv ?_
  refine okp ?_
  exact ok_nil
 replace hS:=SymF.fc hS hF [0,1,2,3] [⟨(p1 0).N,#[.int .i64 E,.int .i64 F],23,true⟩,⟨(p1 1).N,#[.bool s,.slice a1 n1 c1,.slice a2 n2 c2],28,true⟩,⟨(p5 0).N,#[ubx cA u3 u4,ubx cB u3 u4,ubx s u3 u4,.int .u64 0,.int .u64 0],32,true⟩,⟨(p6 0).N,#[.int .u8 (g0:Int),.int .u8 (g1:Int),.int .u8 0,.int .u8 0,.int .u8 0],33,true⟩]
 replace hG:=hF.gx
 clear hF hK
 have hK:=hJ
 clear hJ
 refine wg hS hG hK (fun p24=>[.v 51 (.int .u8 2),.v 52 (.int .u8 (g2:Int)),.v 53 (pT (p6 0).N 2),.p 3 2 [.int .u8 (g2:Int)]]) (fun p24=>[(2,pT (p1 0).N 0),(3,pT (p1 1).N 0),(4,.bool false),(5,.bool true),(7,pT (p5 0).N 0),(8,pT (p6 0).N 0),(9,.int .u8 2),(10,ubx s u3 u4),(11,.int .u8 (g2:Int)),(12,.int .i64 0)]) (fun p24=>?_) (fun p24 W24 T hF hJ=>?_)
 ·iterate 3 refine okv ?_
  refine okp ?_
  exact ok_nil
 replace hS:=SymF.fc hS hF [0,1,2,3] [⟨(p1 0).N,#[.int .i64 E,.int .i64 F],23,true⟩,⟨(p1 1).N,#[.bool s,.slice a1 n1 c1,.slice a2 n2 c2],28,true⟩,⟨(p5 0).N,#[ubx cA u3 u4,ubx cB u3 u4,ubx s u3 u4,.int .u64 0,.int .u64 0],32,true⟩,⟨(p6 0).N,#[.int .u8 (g0:Int),.int .u8 (g1:Int),.int .u8 (g2:Int),.int .u8 0,.int .u8 0],33,true⟩]
 replace hG:=hF.gx
 clear hF hK
 have hK:=hJ
 clear hJ
 refine inb_n (then_n ?_)
 refine wg hS hG hK (fun p25=>[.v 34 (.int .u8 2),.v 35 (.int .u8 3),.v 9 (.int .u8 3)]) (fun p25=>[(2,pT (p1 0).N 0),(3,pT (p1 1).N 0),(4,.bool false),(5,.bool true),(7,pT (p5 0).N 0),(8,pT (p6 0).N 0),(9,.int .u8 3),(10,ubx s u3 u4),(11,.int .u8 (g2:Int)),(12,.int .i64 0)]) (fun p25=>?_) (fun p25 W25 T hF hJ=>?_)
 ·iterate 3 refine okv ?_
  exact ok_nil
 replace hS:=SymF.fd hS hF
 replace hG:=hF.gx
 clear hF hK
 have hK:=hJ
 clear hJ
 refine then_n (rounds_s (wp_seq ?_))
 refine wq hS hG hK (fun p26=>[.v 32 (.int .u8 3),.v 33 (.bool true)]) (fun p26=>[(2,pT (p1 0).N 0),(3,pT (p1 1).N 0),(4,.bool false),(5,.bool true),(7,pT (p5 0).N 0),(8,pT (p6 0).N 0),(9,.int .u8 3),(10,ubx s u3 u4),(11,.int .u8 (g2:Int)),(12,.int .i64 0),(33,.bool true)]) (fun p26=>?_) (fun p26 W26 T hF hJ=>?_)
 ·iterate 2 refine okv ?_
  exact ok_nil
 replace hS:=SymF.fd hS hF
 replace hG:=hF.gx
 clear hF hK
 have hK:=hJ
 clear hJ
 refine wp_cond_true (hK.ew 33) (wp_skip ?_)
 refine then_n (wp_seq (wp_block ?_))
 refine wq hS hG hK (fun p27=>[.l 37 (.agg #[.int .i64 E,.int .i64 F]) 0 0,.l 38 (.agg #[.bool s,.slice a1 n1 c1,.slice a2 n2 c2]) 1 0,.v 39 (pT (p1 1).N 0),.l 40 (.bool s) 1 0,.v 41 (.int .u8 3),.c (some 42) (cV (.tuple #[.int .u64 (u3:Int),.int .u8 (g3:Int),.int .i64 0])),.v 36 (.tuple #[.int .u64 (u3:Int),.int .u8 (g3:Int),.int .i64 0]),.v 43 (.int .u64 (u3:Int)),.v 44 (.int .u8 (g3:Int)),.v 45 (.int .i64 0),.v 10 (.int .u64 (u3:Int)),.v 11 (.int .u8 (g3:Int)),.v 12 (.int .i64 0)]) (fun p27=>[(2,pT (p1 0).N 0),(3,pT (p1 1).N 0),(4,.bool false),(5,.bool true),(7,pT (p5 0).N 0),(8,pT (p6 0).N 0),(9,.int .u8 3),(10,.int .u64 (u3:Int)),(11,.int .u8 (g3:Int)),(12,.int .i64 0)]) (fun p27=>?_) (fun p27 W27 T hF hJ=>?_)
 ·iterate 2 refine okl ?_
  refine okv ?_
  refine okl ?_
  refine okv ?_
  refine okc (fun W cx=>as_v (unhide HR3 _ cx.fr)) ?_
  iterate 7 refine okv ?_
  exact ok_nil
 replace hS:=SymF.fd hS hF
 replace hG:=hF.gx
 clear hF hK
 have hK:=hJ
 clear hJ
 refine wp_seq ?_
 refine wq hS hG hK (fun p28=>[.v 46 (.int .i64 0),.v 47 (.bool false)]) (fun p28=>[(2,pT (p1 0).N 0),(3,pT (p1 1).N 0),(4,.bool false),(5,.bool true),(7,pT (p5 0).N 0),(8,pT (p6 0).N 0),(9,.int .u8 3),(10,.int .u64 (u3:Int)),(11,.int .u8 (g3:Int)),(12,.int .i64 0),(47,.bool false)]) (fun p28=>?_) (fun p28 W28 T hF hJ=>?_)
 ·iterate 2 refine okv ?_
  exact ok_nil
 replace hS:=SymF.fd hS hF
 replace hG:=hF.gx
 clear hF hK
 have hK:=hJ
 clear hJ
 refine wp_cond_false (hK.ew 47) (wp_skip (then_n ?_))
 refine wq hS hG hK (fun p29=>[.v 48 (.int .u8 3),.v 49 (.int .u64 (u3:Int)),.v 50 (pT (p5 0).N 3),.p 2 3 [.int .u64 (u3:Int)]]) (fun p29=>[(2,pT (p1 0).N 0),(3,pT (p1 1).N 0),(4,.bool false),(5,.bool true),(7,pT (p5 0).N 0),(8,pT (p6 0).N 0),(9,.int .u8 3),(10,.int .u64 (u3:Int)),(11,.int .u8 (g3:Int)),(12,.int .i64 0)]) (fun p29=>?_) (fun p29 W29 T hF hJ=>?_)
 ·iterate 3 refine okv ?_
  refine okp ?_
  exact ok_nil
 replace hS:=SymF.fc hS hF [0,1,2,3] [⟨(p1 0).N,#[.int .i64 E,.int .i64 F],23,true⟩,⟨(p1 1).N,#[.bool s,.slice a1 n1 c1,.slice a2 n2 c2],28,true⟩,⟨(p5 0).N,#[ubx cA u3 u4,ubx cB u3 u4,ubx s u3 u4,.int .u64 (u3:Int),.int .u64 0],32,true⟩,⟨(p6 0).N,#[.int .u8 (g0:Int),.int .u8 (g1:Int),.int .u8 (g2:Int),.int .u8 0,.int .u8 0],33,true⟩]
 replace hG:=hF.gx
 clear hF hK
 have hK:=hJ
 clear hJ
 refine wg hS hG hK (fun p30=>[.v 51 (.int .u8 3),.v 52 (.int .u8 (g3:Int)),.v 53 (pT (p6 0).N 3),.p 3 3 [.int .u8 (g3:Int)]]) (fun p30=>[(2,pT (p1 0).N 0),(3,pT (p1 1).N 0),(4,.bool false),(5,.bool true),(7,pT (p5 0).N 0),(8,pT (p6 0).N 0),(9,.int .u8 3),(10,.int .u64 (u3:Int)),(11,.int .u8 (g3:Int)),(12,.int .i64 0)]) (fun p30=>?_) (fun p30 W30 T hF hJ=>?_)
 ·iterate 3 refine okv ?_
  refine okp ?_
  exact ok_nil
 replace hS:=SymF.fc hS hF [0,1,2,3] [⟨(p1 0).N,#[.int .i64 E,.int .i64 F],23,true⟩,⟨(p1 1).N,#[.bool s,.slice a1 n1 c1,.slice a2 n2 c2],28,true⟩,⟨(p5 0).N,#[ubx cA u3 u4,ubx cB u3 u4,ubx s u3 u4,.int .u64 (u3:Int),.int .u64 0],32,true⟩,⟨(p6 0).N,#[.int .u8 (g0:Int),.int .u8 (g1:Int),.int .u8 (g2:Int),.int .u8 (g3:Int),.int .u8 0],33,true⟩]
 replace hG:=hF.gx
 clear hF hK
 have hK:=hJ
 clear hJ
 refine inb_n (then_n ?_)
 refine wg hS hG hK (fun p31=>[.v 34 (.int .u8 3),.v 35 (.int .u8 4),.v 9 (.int .u8 4)]) (fun p31=>[(2,pT (p1 0).N 0),(3,pT (p1 1).N 0),(4,.bool false),(5,.bool true),(7,pT (p5 0).N 0),(8,pT (p6 0).N 0),(9,.int .u8 4),(10,.int .u64 (u3:Int)),(11,.int .u8 (g3:Int)),(12,.int .i64 0)]) (fun p31=>?_) (fun p31 W31 T hF hJ=>?_)
 ·iterate 3 refine okv ?_
  exact ok_nil
 replace hS:=SymF.fd hS hF
 replace hG:=hF.gx
 clear hF hK
 have hK:=hJ
 clear hJ
 refine then_n (rounds_s (wp_seq ?_))
 refine wq hS hG hK (fun p32=>[.v 32 (.int .u8 4),.v 33 (.bool true)]) (fun p32=>[(2,pT (p1 0).N 0),(3,pT (p1 1).N 0),(4,.bool false),(5,.bool true),(7,pT (p5 0).N 0),(8,pT (p6 0).N 0),(9,.int .u8 4),(10,.int .u64 (u3:Int)),(11,.int .u8 (g3:Int)),(12,.int .i64 0),(33,.bool true)]) (fun p32=>?_) (fun p32 W32 T hF hJ=>?_)
 ·iterate 2 refine okv ?_
  exact ok_nil
 replace hS:=SymF.fd hS hF
 replace hG:=hF.gx
 clear hF hK
 have hK:=hJ
 clear hJ
 refine wp_cond_true (hK.ew 33) (wp_skip ?_)
 refine then_n (wp_seq (wp_block ?_))
 refine wq hS hG hK (fun p33=>[.l 37 (.agg #[.int .i64 E,.int .i64 F]) 0 0,.l 38 (.agg #[.bool s,.slice a1 n1 c1,.slice a2 n2 c2]) 1 0,.v 39 (pT (p1 1).N 0),.l 40 (.bool s) 1 0,.v 41 (.int .u8 4),.c (some 42) (cV (.tuple #[.int .u64 (u4:Int),.int .u8 (g4:Int),.int .i64 0])),.v 36 (.tuple #[.int .u64 (u4:Int),.int .u8 (g4:Int),.int .i64 0]),.v 43 (.int .u64 (u4:Int)),.v 44 (.int .u8 (g4:Int)),.v 45 (.int .i64 0),.v 10 (.int .u64 (u4:Int)),.v 11 (.int .u8 (g4:Int)),.v 12 (.int .i64 0)]) (fun p33=>[(2,pT (p1 0).N 0),(3,pT (p1 1).N 0),(4,.bool false),(5,.bool true),(7,pT (p5 0).N 0),(8,pT (p6 0).N 0),(9,.int .u8 4),(10,.int .u64 (u4:Int)),(11,.int .u8 (g4:Int)),(12,.int .i64 0)]) (fun p33=>?_) (fun p33 W33 T hF hJ=>?_)
 ·iterate 2 refine okl ?_
  refine okv ?_
  refine okl ?_
  refine okv ?_
  refine okc (fun W cx=>as_v (unhide HR4 _ cx.fr)) ?_
  iterate 7 refine okv ?_
  exact ok_nil
 replace hS:=SymF.fd hS hF
 replace hG:=hF.gx
 clear hF hK
 have hK:=hJ
 clear hJ
 refine wp_seq ?_
 refine wq hS hG hK (fun p34=>[.v 46 (.int .i64 0),.v 47 (.bool false)]) (fun p34=>[(2,pT (p1 0).N 0),(3,pT (p1 1).N 0),(4,.bool false),(5,.bool true),(7,pT (p5 0).N 0),(8,pT (p6 0).N 0),(9,.int .u8 4),(10,.int .u64 (u4:Int)),(11,.int .u8 (g4:Int)),(12,.int .i64 0),(47,.bool false)]) (fun p34=>?_) (fun p34 W34 T hF hJ=>?_)
 ·iterate 2 refine okv ?_
  exact ok_nil
 replace hS:=SymF.fd hS hF
 replace hG:=hF.gx
 clear hF hK
 have hK:=hJ
 clear hJ
 refine wp_cond_false (hK.ew 47) (wp_skip (then_n ?_))
 refine wq hS hG hK (fun p35=>[.v 48 (.int .u8 4),.v 49 (.int .u64 (u4:Int)),.v 50 (pT (p5 0).N 4),.p 2 4 [.int .u64 (u4:Int)]]) (fun p35=>[(2,pT (p1 0).N 0),(3,pT (p1 1).N 0),(4,.bool false),(5,.bool true),(7,pT (p5 0).N 0),(8,pT (p6 0).N 0),(9,.int .u8 4),(10,.int .u64 (u4:Int)),(11,.int .u8 (g4:Int)),(12,.int .i64 0)]) (fun p35=>?_) (fun p35 W35 T hF hJ=>?_)
 ·iterate 3 refine okv ?_
  refine okp ?_
  exact ok_nil
 replace hS:=SymF.fc hS hF [0,1,2,3] [⟨(p1 0).N,#[.int .i64 E,.int .i64 F],23,true⟩,⟨(p1 1).N,#[.bool s,.slice a1 n1 c1,.slice a2 n2 c2],28,true⟩,⟨(p5 0).N,#[ubx cA u3 u4,ubx cB u3 u4,ubx s u3 u4,.int .u64 (u3:Int),.int .u64 (u4:Int)],32,true⟩,⟨(p6 0).N,#[.int .u8 (g0:Int),.int .u8 (g1:Int),.int .u8 (g2:Int),.int .u8 (g3:Int),.int .u8 0],33,true⟩]
 replace hG:=hF.gx
 clear hF hK
 have hK:=hJ
 clear hJ
 refine wg hS hG hK (fun p36=>[.v 51 (.int .u8 4),.v 52 (.int .u8 (g4:Int)),.v 53 (pT (p6 0).N 4),.p 3 4 [.int .u8 (g4:Int)]]) (fun p36=>[(2,pT (p1 0).N 0),(3,pT (p1 1).N 0),(4,.bool false),(5,.bool true),(7,pT (p5 0).N 0),(8,pT (p6 0).N 0),(9,.int .u8 4),(10,.int .u64 (u4:Int)),(11,.int .u8 (g4:Int)),(12,.int .i64 0)]) (fun p36=>?_) (fun p36 W36 T hF hJ=>?_)
 ·iterate 3 refine okv ?_
  refine okp ?_
  exact ok_nil
 replace hS:=SymF.fc hS hF [0,1,2,3] [⟨(p1 0).N,#[.int .i64 E,.int .i64 F],23,true⟩,⟨(p1 1).N,#[.bool s,.slice a1 n1 c1,.slice a2 n2 c2],28,true⟩,⟨(p5 0).N,#[ubx cA u3 u4,ubx cB u3 u4,ubx s u3 u4,.int .u64 (u3:Int),.int .u64 (u4:Int)],32,true⟩,⟨(p6 0).N,#[.int .u8 (g0:Int),.int .u8 (g1:Int),.int .u8 (g2:Int),.int .u8 (g3:Int),.int .u8 (g4:Int)],33,true⟩]
 replace hG:=hF.gx
 clear hF hK
 have hK:=hJ
 clear hJ
 refine inb_n (then_n ?_)
 refine wg hS hG hK (fun p37=>[.v 34 (.int .u8 4),.v 35 (.int .u8 5),.v 9 (.int .u8 5)]) (fun p37=>[(2,pT (p1 0).N 0),(3,pT (p1 1).N 0),(4,.bool false),(5,.bool true),(7,pT (p5 0).N 0),(8,pT (p6 0).N 0),(9,.int .u8 5),(10,.int .u64 (u4:Int)),(11,.int .u8 (g4:Int)),(12,.int .i64 0)]) (fun p37=>?_) (fun p37 W37 T hF hJ=>?_)
 ·iterate 3 refine okv ?_
  exact ok_nil
 replace hS:=SymF.fd hS hF
 replace hG:=hF.gx
 clear hF hK
 have hK:=hJ
 clear hJ
 refine then_n (rounds_s (wp_seq ?_))
 refine wq hS hG hK (fun p38=>[.v 32 (.int .u8 5),.v 33 (.bool false)]) (fun p38=>[(2,pT (p1 0).N 0),(3,pT (p1 1).N 0),(4,.bool false),(5,.bool true),(7,pT (p5 0).N 0),(8,pT (p6 0).N 0),(9,.int .u8 5),(10,.int .u64 (u4:Int)),(11,.int .u8 (g4:Int)),(12,.int .i64 0),(33,.bool false)]) (fun p38=>?_) (fun p38 W38 T hF hJ=>?_)
 ·iterate 2 refine okv ?_
  exact ok_nil
 replace hS:=SymF.fd hS hF
 replace hG:=hF.gx
 clear hF hK
 have hK:=hJ
 clear hJ
 refine wp_cond_false (hK.ew 33) (wp_exit ?_)
 refine then_x (then_x ?_)
 refine inb_x (then_n ?_)
 refine wq hS hG hK (fun p39=>[.l 54 (.agg #[.int .i64 E,.int .i64 F]) 0 0,.v 55 (pT (p5 0).N 4),.l 56 (.int .u64 (u4:Int)) 2 4,.c (some 57) (cV (.int .i64 k)),.v 13 (.int .i64 k)]) (fun p39=>[(2,pT (p1 0).N 0),(3,pT (p1 1).N 0),(4,.bool false),(5,.bool true),(7,pT (p5 0).N 0),(8,pT (p6 0).N 0),(13,.int .i64 k)]) (fun p39=>?_) (fun p39 W39 T hF hJ=>?_)
 ·refine okl ?_
  refine okv ?_
  refine okl ?_
  refine okc (fun W cx=>as_v (unhide HK4 _ cx.fr)) ?_
  refine okv ?_
  exact ok_nil
 replace hS:=SymF.fd hS hF
 replace hG:=hF.gx
 clear hF hK
 have hK:=hJ
 clear hJ
 refine wq hS hG hK (fun p40=>[.l 58 (.agg #[.int .i64 E,.int .i64 F]) 0 0,.v 59 (pT (p5 0).N 3),.l 60 (.int .u64 (u3:Int)) 2 3,.c (some 61) (cV (.int .i64 k3)),.v 14 (.int .i64 k3)]) (fun p40=>[(2,pT (p1 0).N 0),(3,pT (p1 1).N 0),(4,.bool false),(5,.bool true),(7,pT (p5 0).N 0),(8,pT (p6 0).N 0),(13,.int .i64 k),(14,.int .i64 k3)]) (fun p40=>?_) (fun p40 W40 T hF hJ=>?_)
 ·refine okl ?_
  refine okv ?_
  refine okl ?_
  refine okc (fun W cx=>as_v (unhide HK3 _ cx.fr)) ?_
  refine okv ?_
  exact ok_nil
 replace hS:=SymF.fd hS hF
 replace hG:=hF.gx
 clear hF hK
 have hK:=hJ
 clear hJ
 refine wq hS hG hK (fun p41=>[.v 62 (pT (p5 0).N 4),.l 63 (.int .u64 (u4:Int)) 2 4,.v 15 (.int .u64 (u4:Int))]) (fun p41=>[(2,pT (p1 0).N 0),(3,pT (p1 1).N 0),(4,.bool false),(5,.bool true),(7,pT (p5 0).N 0),(8,pT (p6 0).N 0),(13,.int .i64 k),(14,.int .i64 k3),(15,.int .u64 (u4:Int))]) (fun p41=>?_) (fun p41 W41 T hF hJ=>?_)
 ·refine okv ?_
  refine okl ?_
  refine okv ?_
  exact ok_nil
 replace hS:=SymF.fd hS hF
 replace hG:=hF.gx
 clear hF hK
 have hK:=hJ
 clear hJ
 refine wp_seq ?_
 refine wq hS hG hK (fun p42=>[.v 64 (pT (p1 1).N 0),.l 65 (.bool s) 1 0]) (fun p42=>[(2,pT (p1 0).N 0),(3,pT (p1 1).N 0),(4,.bool false),(5,.bool true),(7,pT (p5 0).N 0),(8,pT (p6 0).N 0),(13,.int .i64 k),(14,.int .i64 k3),(15,.int .u64 (u4:Int)),(65,.bool s)]) (fun p42=>?_) (fun p42 W42 T hF hJ=>?_)
 ·refine okv ?_
  refine okl ?_
  exact ok_nil
 replace hS:=SymF.fd hS hF
 replace hG:=hF.gx
 clear hF hK
 have hK:=hJ
 clear hJ
 refine wp_join0 hS hG hK [(2,pT (p1 0).N 0),(3,pT (p1 1).N 0),(4,.bool false),(5,.bool true),(7,pT (p5 0).N 0),(8,pT (p6 0).N 0),(13,.int .i64 k),(14,.int .i64 k3),(15,ubx s u3 u4)] ?_ (fun T W44 hS9 hG9 hJ=>?_)
 ·cases s
  ·refine wp_cond_false (hK.ew 65) (wp_skip ?_)
   exact join_end hS hG (kn_out (ds:=[]) hK rfl rfl _ (by kernel_rfl) (by kernel_rfl))
  ·refine wp_cond_true (hK.ew 65) ?_
   refine wg hS hG hK (fun p43=>[.v 66 (pT (p5 0).N 3),.l 67 (.int .u64 (u3:Int)) 2 3,.v 15 (.int .u64 (u3:Int))]) (fun p43=>[(2,pT (p1 0).N 0),(3,pT (p1 1).N 0),(4,.bool false),(5,.bool true),(7,pT (p5 0).N 0),(8,pT (p6 0).N 0),(13,.int .i64 k),(14,.int .i64 k3),(15,.int .u64 (u3:Int))]) (fun p43=>?_) (fun p43 W43 T hF hJ=>?_)
   ·refine okv ?_
    refine okl ?_
    refine okv ?_
    exact ok_nil
   replace hS:=SymF.fd hS hF
   replace hG:=hF.gx
   clear hF hK
   have hK:=hJ
   clear hJ
   exact join_end hS hG (kn_out (ds:=[]) hK rfl rfl _ (by kernel_rfl) (by kernel_rfl))
 clear hS hG hK
 have hS:=hS9
 have hG:=hG9
 have hK:=hJ
 clear hS9 hG9 hJ
 refine then_n (wp_seq ?_)
 refine wq hS hG hK (fun p45=>[.v 68 (.bool true),.v 69 (.bool false),.v 70 (.bool false),.v 71 (.int .i64 k),.v 72 (.int .i64 k3),.v 73 (.bool false),.v 74 (.bool false),.v 75 (.bool false),.v 76 (.int .i64 k3),.v 77 (.int .i64 k),.v 78 (.int .i64 (k3 - k)),.v 79 (.bool false),.v 80 (.bool false),.v 81 (.bool false),.v 82 (pT (p5 0).N 2),.l 83 (ubx s u3 u4) 2 2,.v 84 (ubx s u3 u4),.v 85 (.bool false),.v 86 (.bool false)]) (fun p45=>[(2,pT (p1 0).N 0),(3,pT (p1 1).N 0),(4,.bool false),(5,.bool true),(7,pT (p5 0).N 0),(8,pT (p6 0).N 0),(13,.int .i64 k),(14,.int .i64 k3),(86,.bool false)]) (fun p45=>?_) (fun p45 W45 T hF hJ=>?_)
 ·iterate 5 refine okv ?_
  refine okvb (decide_eq_false (show ¬ k > k3 by omega)) ?_
  iterate 4 refine okv ?_
  refine okvi (wr64 (x:=k3 - k) (by omega) (by omega)) ?_
  refine okvb (decide_eq_false (show ¬ k3 - k > 1 by omega)) ?_
  iterate 3 refine okv ?_
  refine okl ?_
  refine okv ?_
  refine okvb (ubx_same s u3 u4) ?_
  refine okv ?_
  exact ok_nil
 replace hS:=SymF.fd hS hF
 replace hG:=hF.gx
 clear hF hK
 have hK:=hJ
 clear hJ
 refine wp_cond_false (hK.ew 86) (wp_skip ?_)
 refine then_n (wp_seq ?_)
 refine wq hS hG hK (fun p46=>[.v 16 (.int .i64 0)]) (fun p46=>[(2,pT (p1 0).N 0),(3,pT (p1 1).N 0),(4,.bool false),(5,.bool true),(7,pT (p5 0).N 0),(8,pT (p6 0).N 0),(13,.int .i64 k),(14,.int .i64 k3),(16,.int .i64 0)]) (fun p46=>?_) (fun p46 W46 T hF hJ=>?_)
 ·refine okv ?_
  exact ok_nil
 replace hS:=SymF.fd hS hF
 replace hG:=hF.gx
 clear hF hK
 have hK:=hJ
 clear hJ
 refine wp_block (wp_loop_rounds 6 ?_)
 refine rounds_s (wp_seq ?_)
 refine wq hS hG hK (fun p47=>[.v 87 (.int .i64 0),.v 88 (.bool true)]) (fun p47=>[(2,pT (p1 0).N 0),(3,pT (p1 1).N 0),(4,.bool false),(5,.bool true),(7,pT (p5 0).N 0),(8,pT (p6 0).N 0),(13,.int .i64 k),(14,.int .i64 k3),(16,.int .i64 0),(88,.bool true)]) (fun p47=>?_) (fun p47 W47 T hF hJ=>?_)
 ·iterate 2 refine okv ?_
  exact ok_nil
 replace hS:=SymF.fd hS hF
 replace hG:=hF.gx
 clear hF hK
 have hK:=hJ
 clear hJ
 refine wp_cond_true (hK.ew 88) (wp_skip ?_)
 refine then_n (wp_seq (wp_block ?_))
 cases own
 ·have hx:=hap rfl
  refine wp_seq ?_
  refine wp_join0 hS hG hK [(2,pT (p1 0).N 0),(3,pT (p1 1).N 0),(4,.bool false),(5,.bool true),(7,pT (p5 0).N 0),(8,pT (p6 0).N 0),(13,.int .i64 k),(14,.int .i64 k3),(16,.int .i64 0),(127,.bool false)] ?_ (fun T W49 hS9 hG9 hJ=>?_)
  ·cases cA
   ·refine wg hS hG hK (fun p48=>[.v 91 (.int .i64 0),.v 92 (pT (p6 0).N 0),.l 93 (.int .u8 (g0:Int)) 3 0,.v 94 (.bool true),.v 95 (pT (p6 0).N 0),.l 96 (.int .u8 (g0:Int)) 3 0,.v 97 (.bool true),.v 98 (.bool false),.v 99 (.bool false),.v 100 (.int .i64 0),.v 101 (pT (p6 0).N 0),.l 102 (.int .u8 (g0:Int)) 3 0,.v 103 (.bool true),.v 104 (.bool true),.v 105 (.int .i64 0),.v 106 (pT (p6 0).N 0),.l 107 (.int .u8 (g0:Int)) 3 0,.v 108 (.int .u8 1),.v 109 (.bool false),.v 110 (.bool false),.v 111 (.bool false),.v 112 (.bool false),.v 113 (.int .i64 0),.v 114 (pT (p5 0).N 0),.l 115 (ubx false u3 u4) 2 0,.v 116 (pT (p5 0).N 4),.l 117 (.int .u64 (u4:Int)) 2 4,.v 118 (.bool false),.v 119 (.bool false),.k (some 120),.k (some 121),.k (some 122),.k (some 123),.k (some 124),.k (some 125),.v 126 (.bool false),.v 127 (.bool false)]) (fun p48=>[(2,pT (p1 0).N 0),(3,pT (p1 1).N 0),(4,.bool false),(5,.bool true),(7,pT (p5 0).N 0),(8,pT (p6 0).N 0),(13,.int .i64 k),(14,.int .i64 k3),(16,.int .i64 0),(127,.bool false)]) (fun p48=>?_) (fun p48 W48 T hF hJ=>?_)
    ·iterate 2 refine okv ?_
     refine okl ?_
     refine okvb (bne_iff_ne.2 (show (g0:Int)≠(0:Int) by omega)) ?_
     refine okv ?_
     refine okl ?_
     refine okvb (bne_iff_ne.2 (show (g0:Int)≠(0:Int) by omega)) ?_
     iterate 4 refine okv ?_
     refine okl ?_
     refine okvb (bne_iff_ne.2 (show (g0:Int)≠(0:Int) by omega)) ?_
     iterate 3 refine okv ?_
     refine okl ?_
     refine okvi (hx.2.2.2.1) ?_
     iterate 6 refine okv ?_
     refine okl ?_
     refine okv ?_
     refine okl ?_
     refine okvb (bne_self_eq_false (u4:Int)) ?_
     refine okv ?_
     iterate 6 refine okk ?_
     iterate 2 refine okv ?_
     exact ok_nil
    replace hS:=SymF.fd hS hF
    replace hG:=hF.gx
    clear hF hK
    have hK:=hJ
    clear hJ
    have z48:=hS.fr.size
    exact join_end hS hG (kn_out (ds:=[]) hK rfl rfl _ (by kernel_rfl) (by kernel_rfl))
   ·refine wg hS hG hK (fun p48=>[.v 91 (.int .i64 0),.v 92 (pT (p6 0).N 0),.l 93 (.int .u8 (g0:Int)) 3 0,.v 94 (.bool true),.v 95 (pT (p6 0).N 0),.l 96 (.int .u8 (g0:Int)) 3 0,.v 97 (.bool true),.v 98 (.bool false),.v 99 (.bool false),.v 100 (.int .i64 0),.v 101 (pT (p6 0).N 0),.l 102 (.int .u8 (g0:Int)) 3 0,.v 103 (.bool true),.v 104 (.bool true),.v 105 (.int .i64 0),.v 106 (pT (p6 0).N 0),.l 107 (.int .u8 (g0:Int)) 3 0,.v 108 (.int .u8 1),.v 109 (.bool false),.v 110 (.bool false),.v 111 (.bool false),.v 112 (.bool false),.v 113 (.int .i64 0),.v 114 (pT (p5 0).N 0),.l 115 (ubx true u3 u4) 2 0,.v 116 (pT (p5 0).N 4),.l 117 (.int .u64 (u4:Int)) 2 4,.v 118 (.bool true),.v 119 (.bool true),.v 120 (.int .i64 0),.v 121 (pT (p5 0).N 0),.l 122 (ubx true u3 u4) 2 0,.v 123 (pT (p5 0).N 3),.l 124 (.int .u64 (u3:Int)) 2 3,.v 125 (.bool false),.v 126 (.bool false),.v 127 (.bool false)]) (fun p48=>[(2,pT (p1 0).N 0),(3,pT (p1 1).N 0),(4,.bool false),(5,.bool true),(7,pT (p5 0).N 0),(8,pT (p6 0).N 0),(13,.int .i64 k),(14,.int .i64 k3),(16,.int .i64 0),(127,.bool false)]) (fun p48=>?_) (fun p48 W48 T hF hJ=>?_)
    ·iterate 2 refine okv ?_
     refine okl ?_
     refine okvb (bne_iff_ne.2 (show (g0:Int)≠(0:Int) by omega)) ?_
     refine okv ?_
     refine okl ?_
     refine okvb (bne_iff_ne.2 (show (g0:Int)≠(0:Int) by omega)) ?_
     iterate 4 refine okv ?_
     refine okl ?_
     refine okvb (bne_iff_ne.2 (show (g0:Int)≠(0:Int) by omega)) ?_
     iterate 3 refine okv ?_
     refine okl ?_
     refine okvi (hx.2.2.2.1) ?_
     iterate 6 refine okv ?_
     refine okl ?_
     refine okv ?_
     refine okl ?_
     refine okvb (bne_iff_ne.2 (show (u3:Int)≠(u4:Int) by omega)) ?_
     iterate 3 refine okv ?_
     refine okl ?_
     refine okv ?_
     refine okl ?_
     refine okvb (bne_self_eq_false (u3:Int)) ?_
     iterate 2 refine okv ?_
     exact ok_nil
    replace hS:=SymF.fd hS hF
    replace hG:=hF.gx
    clear hF hK
    have hK:=hJ
    clear hJ
    have z48:=hS.fr.size
    exact join_end hS hG (kn_out (ds:=[]) hK rfl rfl _ (by kernel_rfl) (by kernel_rfl))
  clear hS hG hK
  have hS:=hS9
  have hG:=hG9
  have hK:=hJ
  clear hS9 hG9 hJ
  have z49:=hS.fr.size
  refine then_n (wp_cond_false (hK.ew 127) ?_)
  refine wp_skip (inb_n (then_n ?_))
  refine wg hS hG hK (fun p50=>[.v 89 (.int .i64 0),.v 90 (.int .i64 1),.v 16 (.int .i64 1)]) (fun p50=>[(2,pT (p1 0).N 0),(3,pT (p1 1).N 0),(4,.bool false),(5,.bool true),(7,pT (p5 0).N 0),(8,pT (p6 0).N 0),(13,.int .i64 k),(14,.int .i64 k3),(16,.int .i64 1)]) (fun p50=>?_) (fun p50 W50 T hF hJ=>?_)
  ·iterate 3 refine okv ?_
   exact ok_nil
  replace hS:=SymF.fd hS hF
  replace hG:=hF.gx
  clear hF hK
  have hK:=hJ
  clear hJ
  have z50:=hS.fr.size
  refine then_n (rounds_s (wp_seq ?_))
  refine wq hS hG hK (fun p51=>[.v 87 (.int .i64 1),.v 88 (.bool true)]) (fun p51=>[(2,pT (p1 0).N 0),(3,pT (p1 1).N 0),(4,.bool false),(5,.bool true),(7,pT (p5 0).N 0),(8,pT (p6 0).N 0),(13,.int .i64 k),(14,.int .i64 k3),(16,.int .i64 1),(88,.bool true)]) (fun p51=>?_) (fun p51 W51 T hF hJ=>?_)
  ·iterate 2 refine okv ?_
   exact ok_nil
  replace hS:=SymF.fd hS hF
  replace hG:=hF.gx
  clear hF hK
  have hK:=hJ
  clear hJ
  have z51:=hS.fr.size
  refine wp_cond_true (hK.ew 88) (wp_skip ?_)
  refine then_n (wp_seq ?_)
  refine wp_block (wp_seq ?_)
  refine wp_join0 hS hG hK [(2,pT (p1 0).N 0),(3,pT (p1 1).N 0),(4,.bool false),(5,.bool true),(7,pT (p5 0).N 0),(8,pT (p6 0).N 0),(13,.int .i64 k),(14,.int .i64 k3),(16,.int .i64 1),(127,.bool false)] ?_ (fun T W53 hS9 hG9 hJ=>?_)
  ·cases cB
   ·refine wg hS hG hK (fun p52=>[.v 91 (.int .i64 1),.v 92 (pT (p6 0).N 1),.l 93 (.int .u8 (g1:Int)) 3 1,.v 94 (.bool true),.v 95 (pT (p6 0).N 0),.l 96 (.int .u8 (g0:Int)) 3 0,.v 97 (.bool true),.v 98 (.bool false),.v 99 (.bool false),.v 100 (.int .i64 1),.v 101 (pT (p6 0).N 1),.l 102 (.int .u8 (g1:Int)) 3 1,.v 103 (.bool true),.v 104 (.bool true),.v 105 (.int .i64 1),.v 106 (pT (p6 0).N 1),.l 107 (.int .u8 (g1:Int)) 3 1,.v 108 (.int .u8 1),.v 109 (.bool false),.v 110 (.bool false),.v 111 (.bool false),.v 112 (.bool false),.v 113 (.int .i64 1),.v 114 (pT (p5 0).N 1),.l 115 (ubx false u3 u4) 2 1,.v 116 (pT (p5 0).N 4),.l 117 (.int .u64 (u4:Int)) 2 4,.v 118 (.bool false),.v 119 (.bool false),.k (some 120),.k (some 121),.k (some 122),.k (some 123),.k (some 124),.k (some 125),.v 126 (.bool false),.v 127 (.bool false)]) (fun p52=>[(2,pT (p1 0).N 0),(3,pT (p1 1).N 0),(4,.bool false),(5,.bool true),(7,pT (p5 0).N 0),(8,pT (p6 0).N 0),(13,.int .i64 k),(14,.int .i64 k3),(16,.int .i64 1),(127,.bool false)]) (fun p52=>?_) (fun p52 W52 T hF hJ=>?_)
    ·iterate 2 refine okv ?_
     refine okl ?_
     refine okvb (bne_iff_ne.2 (show (g1:Int)≠(0:Int) by omega)) ?_
     refine okv ?_
     refine okl ?_
     refine okvb (bne_iff_ne.2 (show (g0:Int)≠(0:Int) by omega)) ?_
     iterate 4 refine okv ?_
     refine okl ?_
     refine okvb (bne_iff_ne.2 (show (g1:Int)≠(0:Int) by omega)) ?_
     iterate 3 refine okv ?_
     refine okl ?_
     refine okvi (hx.2.2.2.2.1) ?_
     iterate 6 refine okv ?_
     refine okl ?_
     refine okv ?_
     refine okl ?_
     refine okvb (bne_self_eq_false (u4:Int)) ?_
     refine okv ?_
     iterate 6 refine okk ?_
     iterate 2 refine okv ?_
     exact ok_nil
    replace hS:=SymF.fd hS hF
    replace hG:=hF.gx
    clear hF hK
    have hK:=hJ
    clear hJ
    have z52:=hS.fr.size
    exact join_end hS hG (kn_out (ds:=[]) hK rfl rfl _ (by kernel_rfl) (by kernel_rfl))
   ·refine wg hS hG hK (fun p52=>[.v 91 (.int .i64 1),.v 92 (pT (p6 0).N 1),.l 93 (.int .u8 (g1:Int)) 3 1,.v 94 (.bool true),.v 95 (pT (p6 0).N 0),.l 96 (.int .u8 (g0:Int)) 3 0,.v 97 (.bool true),.v 98 (.bool false),.v 99 (.bool false),.v 100 (.int .i64 1),.v 101 (pT (p6 0).N 1),.l 102 (.int .u8 (g1:Int)) 3 1,.v 103 (.bool true),.v 104 (.bool true),.v 105 (.int .i64 1),.v 106 (pT (p6 0).N 1),.l 107 (.int .u8 (g1:Int)) 3 1,.v 108 (.int .u8 1),.v 109 (.bool false),.v 110 (.bool false),.v 111 (.bool false),.v 112 (.bool false),.v 113 (.int .i64 1),.v 114 (pT (p5 0).N 1),.l 115 (ubx true u3 u4) 2 1,.v 116 (pT (p5 0).N 4),.l 117 (.int .u64 (u4:Int)) 2 4,.v 118 (.bool true),.v 119 (.bool true),.v 120 (.int .i64 1),.v 121 (pT (p5 0).N 1),.l 122 (ubx true u3 u4) 2 1,.v 123 (pT (p5 0).N 3),.l 124 (.int .u64 (u3:Int)) 2 3,.v 125 (.bool false),.v 126 (.bool false),.v 127 (.bool false)]) (fun p52=>[(2,pT (p1 0).N 0),(3,pT (p1 1).N 0),(4,.bool false),(5,.bool true),(7,pT (p5 0).N 0),(8,pT (p6 0).N 0),(13,.int .i64 k),(14,.int .i64 k3),(16,.int .i64 1),(127,.bool false)]) (fun p52=>?_) (fun p52 W52 T hF hJ=>?_)
    ·iterate 2 refine okv ?_
     refine okl ?_
     refine okvb (bne_iff_ne.2 (show (g1:Int)≠(0:Int) by omega)) ?_
     refine okv ?_
     refine okl ?_
     refine okvb (bne_iff_ne.2 (show (g0:Int)≠(0:Int) by omega)) ?_
     iterate 4 refine okv ?_
     refine okl ?_
     refine okvb (bne_iff_ne.2 (show (g1:Int)≠(0:Int) by omega)) ?_
     iterate 3 refine okv ?_
     refine okl ?_
     refine okvi (hx.2.2.2.2.1) ?_
     iterate 6 refine okv ?_
     refine okl ?_
     refine okv ?_
     refine okl ?_
     refine okvb (bne_iff_ne.2 (show (u3:Int)≠(u4:Int) by omega)) ?_
     iterate 3 refine okv ?_
     refine okl ?_
     refine okv ?_
     refine okl ?_
     refine okvb (bne_self_eq_false (u3:Int)) ?_
     iterate 2 refine okv ?_
     exact ok_nil
    replace hS:=SymF.fd hS hF
    replace hG:=hF.gx
    clear hF hK
    have hK:=hJ
    clear hJ
    have z52:=hS.fr.size
    exact join_end hS hG (kn_out (ds:=[]) hK rfl rfl _ (by kernel_rfl) (by kernel_rfl))
  clear hS hG hK
  have hS:=hS9
  have hG:=hG9
  have hK:=hJ
  clear hS9 hG9 hJ
  have z53:=hS.fr.size
  refine then_n (wp_cond_false (hK.ew 127) ?_)
  refine wp_skip (inb_n (then_n ?_))
  refine wg hS hG hK (fun p54=>[.v 89 (.int .i64 1),.v 90 (.int .i64 2),.v 16 (.int .i64 2)]) (fun p54=>[(2,pT (p1 0).N 0),(3,pT (p1 1).N 0),(4,.bool false),(5,.bool true),(7,pT (p5 0).N 0),(8,pT (p6 0).N 0),(13,.int .i64 k),(14,.int .i64 k3),(16,.int .i64 2)]) (fun p54=>?_) (fun p54 W54 T hF hJ=>?_)
  ·iterate 3 refine okv ?_
   exact ok_nil
  replace hS:=SymF.fd hS hF
  replace hG:=hF.gx
  clear hF hK
  have hK:=hJ
  clear hJ
  have z54:=hS.fr.size
  refine then_n (rounds_s (wp_seq ?_))
  refine wq hS hG hK (fun p55=>[.v 87 (.int .i64 2),.v 88 (.bool true)]) (fun p55=>[(2,pT (p1 0).N 0),(3,pT (p1 1).N 0),(4,.bool false),(5,.bool true),(7,pT (p5 0).N 0),(8,pT (p6 0).N 0),(13,.int .i64 k),(14,.int .i64 k3),(16,.int .i64 2),(88,.bool true)]) (fun p55=>?_) (fun p55 W55 T hF hJ=>?_)
  ·iterate 2 refine okv ?_
   exact ok_nil
  replace hS:=SymF.fd hS hF
  replace hG:=hF.gx
  clear hF hK
  have hK:=hJ
  clear hJ
  have z55:=hS.fr.size
  refine wp_cond_true (hK.ew 88) (wp_skip ?_)
  refine then_n (wp_seq ?_)
  refine wp_block (wp_seq ?_)
  refine wp_join0 hS hG hK [(2,pT (p1 0).N 0),(3,pT (p1 1).N 0),(4,.bool false),(5,.bool true),(7,pT (p5 0).N 0),(8,pT (p6 0).N 0),(13,.int .i64 k),(14,.int .i64 k3),(16,.int .i64 2),(127,.bool false)] ?_ (fun T W57 hS9 hG9 hJ=>?_)
  ·cases s
   ·refine wg hS hG hK (fun p56=>[.v 91 (.int .i64 2),.v 92 (pT (p6 0).N 2),.l 93 (.int .u8 (g2:Int)) 3 2,.v 94 (.bool true),.v 95 (pT (p6 0).N 0),.l 96 (.int .u8 (g0:Int)) 3 0,.v 97 (.bool true),.v 98 (.bool false),.v 99 (.bool false),.v 100 (.int .i64 2),.v 101 (pT (p6 0).N 2),.l 102 (.int .u8 (g2:Int)) 3 2,.v 103 (.bool true),.v 104 (.bool true),.v 105 (.int .i64 2),.v 106 (pT (p6 0).N 2),.l 107 (.int .u8 (g2:Int)) 3 2,.v 108 (.int .u8 1),.v 109 (.bool false),.v 110 (.bool false),.v 111 (.bool false),.v 112 (.bool false),.v 113 (.int .i64 2),.v 114 (pT (p5 0).N 2),.l 115 (ubx false u3 u4) 2 2,.v 116 (pT (p5 0).N 4),.l 117 (.int .u64 (u4:Int)) 2 4,.v 118 (.bool false),.v 119 (.bool false),.k (some 120),.k (some 121),.k (some 122),.k (some 123),.k (some 124),.k (some 125),.v 126 (.bool false),.v 127 (.bool false)]) (fun p56=>[(2,pT (p1 0).N 0),(3,pT (p1 1).N 0),(4,.bool false),(5,.bool true),(7,pT (p5 0).N 0),(8,pT (p6 0).N 0),(13,.int .i64 k),(14,.int .i64 k3),(16,.int .i64 2),(127,.bool false)]) (fun p56=>?_) (fun p56 W56 T hF hJ=>?_)
    ·iterate 2 refine okv ?_
     refine okl ?_
     refine okvb (bne_iff_ne.2 (show (g2:Int)≠(0:Int) by omega)) ?_
     refine okv ?_
     refine okl ?_
     refine okvb (bne_iff_ne.2 (show (g0:Int)≠(0:Int) by omega)) ?_
     iterate 4 refine okv ?_
     refine okl ?_
     refine okvb (bne_iff_ne.2 (show (g2:Int)≠(0:Int) by omega)) ?_
     iterate 3 refine okv ?_
     refine okl ?_
     refine okvi (hx.2.2.2.2.2.1) ?_
     iterate 6 refine okv ?_
     refine okl ?_
     refine okv ?_
     refine okl ?_
     refine okvb (bne_self_eq_false (u4:Int)) ?_
     refine okv ?_
     iterate 6 refine okk ?_
     iterate 2 refine okv ?_
     exact ok_nil
    replace hS:=SymF.fd hS hF
    replace hG:=hF.gx
    clear hF hK
    have hK:=hJ
    clear hJ
    have z56:=hS.fr.size
    exact join_end hS hG (kn_out (ds:=[]) hK rfl rfl _ (by kernel_rfl) (by kernel_rfl))
   ·refine wg hS hG hK (fun p56=>[.v 91 (.int .i64 2),.v 92 (pT (p6 0).N 2),.l 93 (.int .u8 (g2:Int)) 3 2,.v 94 (.bool true),.v 95 (pT (p6 0).N 0),.l 96 (.int .u8 (g0:Int)) 3 0,.v 97 (.bool true),.v 98 (.bool false),.v 99 (.bool false),.v 100 (.int .i64 2),.v 101 (pT (p6 0).N 2),.l 102 (.int .u8 (g2:Int)) 3 2,.v 103 (.bool true),.v 104 (.bool true),.v 105 (.int .i64 2),.v 106 (pT (p6 0).N 2),.l 107 (.int .u8 (g2:Int)) 3 2,.v 108 (.int .u8 1),.v 109 (.bool false),.v 110 (.bool false),.v 111 (.bool false),.v 112 (.bool false),.v 113 (.int .i64 2),.v 114 (pT (p5 0).N 2),.l 115 (ubx true u3 u4) 2 2,.v 116 (pT (p5 0).N 4),.l 117 (.int .u64 (u4:Int)) 2 4,.v 118 (.bool true),.v 119 (.bool true),.v 120 (.int .i64 2),.v 121 (pT (p5 0).N 2),.l 122 (ubx true u3 u4) 2 2,.v 123 (pT (p5 0).N 3),.l 124 (.int .u64 (u3:Int)) 2 3,.v 125 (.bool false),.v 126 (.bool false),.v 127 (.bool false)]) (fun p56=>[(2,pT (p1 0).N 0),(3,pT (p1 1).N 0),(4,.bool false),(5,.bool true),(7,pT (p5 0).N 0),(8,pT (p6 0).N 0),(13,.int .i64 k),(14,.int .i64 k3),(16,.int .i64 2),(127,.bool false)]) (fun p56=>?_) (fun p56 W56 T hF hJ=>?_)
    ·iterate 2 refine okv ?_
     refine okl ?_
     refine okvb (bne_iff_ne.2 (show (g2:Int)≠(0:Int) by omega)) ?_
     refine okv ?_
     refine okl ?_
     refine okvb (bne_iff_ne.2 (show (g0:Int)≠(0:Int) by omega)) ?_
     iterate 4 refine okv ?_
     refine okl ?_
     refine okvb (bne_iff_ne.2 (show (g2:Int)≠(0:Int) by omega)) ?_
     iterate 3 refine okv ?_
     refine okl ?_
     refine okvi (hx.2.2.2.2.2.1) ?_
     iterate 6 refine okv ?_
     refine okl ?_
     refine okv ?_
     refine okl ?_
     refine okvb (bne_iff_ne.2 (show (u3:Int)≠(u4:Int) by omega)) ?_
     iterate 3 refine okv ?_
     refine okl ?_
     refine okv ?_
     refine okl ?_
     refine okvb (bne_self_eq_false (u3:Int)) ?_
     iterate 2 refine okv ?_
     exact ok_nil
    replace hS:=SymF.fd hS hF
    replace hG:=hF.gx
    clear hF hK
    have hK:=hJ
    clear hJ
    have z56:=hS.fr.size
    exact join_end hS hG (kn_out (ds:=[]) hK rfl rfl _ (by kernel_rfl) (by kernel_rfl))
  clear hS hG hK
  have hS:=hS9
  have hG:=hG9
  have hK:=hJ
  clear hS9 hG9 hJ
  have z57:=hS.fr.size
  refine then_n (wp_cond_false (hK.ew 127) ?_)
  refine wp_skip (inb_n (then_n ?_))
  refine wg hS hG hK (fun p58=>[.v 89 (.int .i64 2),.v 90 (.int .i64 3),.v 16 (.int .i64 3)]) (fun p58=>[(2,pT (p1 0).N 0),(3,pT (p1 1).N 0),(4,.bool false),(5,.bool true),(7,pT (p5 0).N 0),(8,pT (p6 0).N 0),(13,.int .i64 k),(14,.int .i64 k3),(16,.int .i64 3)]) (fun p58=>?_) (fun p58 W58 T hF hJ=>?_)
  ·iterate 3 refine okv ?_
   exact ok_nil
  replace hS:=SymF.fd hS hF
  replace hG:=hF.gx
  clear hF hK
  have hK:=hJ
  clear hJ
  have z58:=hS.fr.size
  refine then_n (rounds_s (wp_seq ?_))
  refine wq hS hG hK (fun p59=>[.v 87 (.int .i64 3),.v 88 (.bool true)]) (fun p59=>[(2,pT (p1 0).N 0),(3,pT (p1 1).N 0),(4,.bool false),(5,.bool true),(7,pT (p5 0).N 0),(8,pT (p6 0).N 0),(13,.int .i64 k),(14,.int .i64 k3),(16,.int .i64 3),(88,.bool true)]) (fun p59=>?_) (fun p59 W59 T hF hJ=>?_)
  ·iterate 2 refine okv ?_
   exact ok_nil
  replace hS:=SymF.fd hS hF
  replace hG:=hF.gx
  clear hF hK
  have hK:=hJ
  clear hJ
  have z59:=hS.fr.size
  refine wp_cond_true (hK.ew 88) (wp_skip ?_)
  refine then_n (wp_seq (wp_block ?_))
  refine wq hS hG hK (fun p60=>[.v 91 (.int .i64 3),.v 92 (pT (p6 0).N 3),.l 93 (.int .u8 (g3:Int)) 3 3,.v 94 (.bool true),.v 95 (pT (p6 0).N 0),.l 96 (.int .u8 (g0:Int)) 3 0,.v 97 (.bool true),.v 98 (.bool false),.v 99 (.bool false),.v 100 (.int .i64 3),.v 101 (pT (p6 0).N 3),.l 102 (.int .u8 (g3:Int)) 3 3,.v 103 (.bool true),.v 104 (.bool true),.v 105 (.int .i64 3),.v 106 (pT (p6 0).N 3),.l 107 (.int .u8 (g3:Int)) 3 3,.v 108 (.int .u8 1),.v 109 (.bool false),.v 110 (.bool false),.v 111 (.bool false),.v 112 (.bool false),.v 113 (.int .i64 3),.v 114 (pT (p5 0).N 3),.l 115 (.int .u64 (u3:Int)) 2 3,.v 116 (pT (p5 0).N 4),.l 117 (.int .u64 (u4:Int)) 2 4,.v 118 (.bool true),.v 119 (.bool true),.v 120 (.int .i64 3),.v 121 (pT (p5 0).N 3),.l 122 (.int .u64 (u3:Int)) 2 3,.v 123 (pT (p5 0).N 3),.l 124 (.int .u64 (u3:Int)) 2 3,.v 125 (.bool false),.v 126 (.bool false),.v 127 (.bool false)]) (fun p60=>[(2,pT (p1 0).N 0),(3,pT (p1 1).N 0),(4,.bool false),(5,.bool true),(7,pT (p5 0).N 0),(8,pT (p6 0).N 0),(13,.int .i64 k),(14,.int .i64 k3),(16,.int .i64 3),(127,.bool false)]) (fun p60=>?_) (fun p60 W60 T hF hJ=>?_)
  ·iterate 2 refine okv ?_
   refine okl ?_
   refine okvb (bne_iff_ne.2 (show (g3:Int)≠(0:Int) by omega)) ?_
   refine okv ?_
   refine okl ?_
   refine okvb (bne_iff_ne.2 (show (g0:Int)≠(0:Int) by omega)) ?_
   iterate 4 refine okv ?_
   refine okl ?_
   refine okvb (bne_iff_ne.2 (show (g3:Int)≠(0:Int) by omega)) ?_
   iterate 3 refine okv ?_
   refine okl ?_
   refine okvi (hx.2.2.2.2.2.2.1) ?_
   iterate 6 refine okv ?_
   refine okl ?_
   refine okv ?_
   refine okl ?_
   refine okvb (bne_iff_ne.2 (show (u3:Int)≠(u4:Int) by omega)) ?_
   iterate 3 refine okv ?_
   refine okl ?_
   refine okv ?_
   refine okl ?_
   refine okvb (bne_self_eq_false (u3:Int)) ?_
   iterate 2 refine okv ?_
   exact ok_nil
  replace hS:=SymF.fd hS hF
  replace hG:=hF.gx
  clear hF hK
  have hK:=hJ
  clear hJ
  have z60:=hS.fr.size
  refine wp_cond_false (hK.ew 127) (wp_skip ?_)
  refine inb_n (then_n ?_)
  refine wg hS hG hK (fun p61=>[.v 89 (.int .i64 3),.v 90 (.int .i64 4),.v 16 (.int .i64 4)]) (fun p61=>[(2,pT (p1 0).N 0),(3,pT (p1 1).N 0),(4,.bool false),(5,.bool true),(7,pT (p5 0).N 0),(8,pT (p6 0).N 0),(13,.int .i64 k),(14,.int .i64 k3),(16,.int .i64 4)]) (fun p61=>?_) (fun p61 W61 T hF hJ=>?_)
  ·iterate 3 refine okv ?_
   exact ok_nil
  replace hS:=SymF.fd hS hF
  replace hG:=hF.gx
  clear hF hK
  have hK:=hJ
  clear hJ
  have z61:=hS.fr.size
  refine then_n (rounds_s (wp_seq ?_))
  refine wq hS hG hK (fun p62=>[.v 87 (.int .i64 4),.v 88 (.bool true)]) (fun p62=>[(2,pT (p1 0).N 0),(3,pT (p1 1).N 0),(4,.bool false),(5,.bool true),(7,pT (p5 0).N 0),(8,pT (p6 0).N 0),(13,.int .i64 k),(14,.int .i64 k3),(16,.int .i64 4),(88,.bool true)]) (fun p62=>?_) (fun p62 W62 T hF hJ=>?_)
  ·iterate 2 refine okv ?_
   exact ok_nil
  replace hS:=SymF.fd hS hF
  replace hG:=hF.gx
  clear hF hK
  have hK:=hJ
  clear hJ
  have z62:=hS.fr.size
  refine wp_cond_true (hK.ew 88) (wp_skip ?_)
  refine then_n (wp_seq (wp_block ?_))
  refine wq hS hG hK (fun p63=>[.v 91 (.int .i64 4),.v 92 (pT (p6 0).N 4),.l 93 (.int .u8 (g4:Int)) 3 4,.v 94 (.bool true),.v 95 (pT (p6 0).N 0),.l 96 (.int .u8 (g0:Int)) 3 0,.v 97 (.bool true),.v 98 (.bool false),.v 99 (.bool false),.v 100 (.int .i64 4),.v 101 (pT (p6 0).N 4),.l 102 (.int .u8 (g4:Int)) 3 4,.v 103 (.bool true),.v 104 (.bool true),.v 105 (.int .i64 4),.v 106 (pT (p6 0).N 4),.l 107 (.int .u8 (g4:Int)) 3 4,.v 108 (.int .u8 1),.v 109 (.bool false),.v 110 (.bool false),.v 111 (.bool false),.v 112 (.bool false),.v 113 (.int .i64 4),.v 114 (pT (p5 0).N 4),.l 115 (.int .u64 (u4:Int)) 2 4,.v 116 (pT (p5 0).N 4),.l 117 (.int .u64 (u4:Int)) 2 4,.v 118 (.bool false),.v 119 (.bool false),.k (some 120),.k (some 121),.k (some 122),.k (some 123),.k (some 124),.k (some 125),.v 126 (.bool false),.v 127 (.bool false)]) (fun p63=>[(2,pT (p1 0).N 0),(3,pT (p1 1).N 0),(4,.bool false),(5,.bool true),(7,pT (p5 0).N 0),(8,pT (p6 0).N 0),(13,.int .i64 k),(14,.int .i64 k3),(16,.int .i64 4),(127,.bool false)]) (fun p63=>?_) (fun p63 W63 T hF hJ=>?_)
  ·iterate 2 refine okv ?_
   refine okl ?_
   refine okvb (bne_iff_ne.2 (show (g4:Int)≠(0:Int) by omega)) ?_
   refine okv ?_
   refine okl ?_
   refine okvb (bne_iff_ne.2 (show (g0:Int)≠(0:Int) by omega)) ?_
   iterate 4 refine okv ?_
   refine okl ?_
   refine okvb (bne_iff_ne.2 (show (g4:Int)≠(0:Int) by omega)) ?_
   iterate 3 refine okv ?_
   refine okl ?_
   refine okvi (hx.2.2.2.2.2.2.2) ?_
   iterate 6 refine okv ?_
   refine okl ?_
   refine okv ?_
   refine okl ?_
   refine okvb (bne_self_eq_false (u4:Int)) ?_
   refine okv ?_
   iterate 6 refine okk ?_
   iterate 2 refine okv ?_
   exact ok_nil
  replace hS:=SymF.fd hS hF
  replace hG:=hF.gx
  clear hF hK
  have hK:=hJ
  clear hJ
  have z63:=hS.fr.size
  refine wp_cond_false (hK.ew 127) (wp_skip ?_)
  refine inb_n (then_n ?_)
  refine wg hS hG hK (fun p64=>[.v 89 (.int .i64 4),.v 90 (.int .i64 5),.v 16 (.int .i64 5)]) (fun p64=>[(2,pT (p1 0).N 0),(3,pT (p1 1).N 0),(4,.bool false),(5,.bool true),(7,pT (p5 0).N 0),(8,pT (p6 0).N 0),(13,.int .i64 k),(14,.int .i64 k3),(16,.int .i64 5)]) (fun p64=>?_) (fun p64 W64 T hF hJ=>?_)
  ·iterate 3 refine okv ?_
   exact ok_nil
  replace hS:=SymF.fd hS hF
  replace hG:=hF.gx
  clear hF hK
  have hK:=hJ
  clear hJ
  have z64:=hS.fr.size
  refine then_n (rounds_s (wp_seq ?_))
  refine wq hS hG hK (fun p65=>[.v 87 (.int .i64 5),.v 88 (.bool false)]) (fun p65=>[(2,pT (p1 0).N 0),(3,pT (p1 1).N 0),(4,.bool false),(5,.bool true),(7,pT (p5 0).N 0),(8,pT (p6 0).N 0),(13,.int .i64 k),(14,.int .i64 k3),(16,.int .i64 5),(88,.bool false)]) (fun p65=>?_) (fun p65 W65 T hF hJ=>?_)
  ·iterate 2 refine okv ?_
   exact ok_nil
  replace hS:=SymF.fd hS hF
  replace hG:=hF.gx
  clear hF hK
  have hK:=hJ
  clear hJ
  have z65:=hS.fr.size
  refine wp_cond_false (hK.ew 88) (wp_exit ?_)
  refine then_x (then_x ?_)
  refine inb_x (then_n ?_)
  refine wq hS hG hK (fun p66=>[.l 129 (.agg #[.int .i64 E,.int .i64 F]) 0 0,.v 130 (pT (p5 0).N 4),.l 131 (.int .u64 (u4:Int)) 2 4,.c (some 132) (cH W65.heap.size va da fun x9 y9=>.tuple #[.agg #[.bool sa,x9,y9],.bool one]),.v 128 (.tuple #[.agg #[.bool sa,.slice (p66 3).A (p66 3).N (p66 3).C,.slice (p66 3).A' (p66 3).N' (p66 3).C'],.bool one]),.v 133 (.agg #[.bool sa,.slice (p66 3).A (p66 3).N (p66 3).C,.slice (p66 3).A' (p66 3).N' (p66 3).C']),.v 134 (.bool one),.n 17 #[.bool false,.slice none 0 0,.slice none 0 0] 28,.p 1007 0 [.bool sa,.slice (p66 3).A (p66 3).N (p66 3).C,.slice (p66 3).A' (p66 3).N' (p66 3).C'],.v 18 (.bool one)]) (fun p66=>[(2,pT (p1 0).N 0),(3,pT (p1 1).N 0),(4,.bool false),(5,.bool true),(7,pT (p5 0).N 0),(8,pT (p6 0).N 0),(13,.int .i64 k),(14,.int .i64 k3),(17,pT (p66 7).N 0),(18,.bool one)]) (fun p66=>?_) (fun p66 W66 T hF hJ=>?_)
  ·refine okl ?_
   refine okv ?_
   refine okl ?_
   refine okc (fun W cx=>as_h cx.hb (unhide HW4 _ cx.fr)) ?_
   iterate 3 refine okv ?_
   refine okn ?_
   refine okp ?_
   refine okv ?_
   exact ok_nil
  replace hS:=SymF.fc hS hF [0,1,2,3,1007] [⟨(p1 0).N,#[.int .i64 E,.int .i64 F],23,true⟩,⟨(p1 1).N,#[.bool s,.slice a1 n1 c1,.slice a2 n2 c2],28,true⟩,⟨(p5 0).N,#[ubx cA u3 u4,ubx cB u3 u4,ubx s u3 u4,.int .u64 (u3:Int),.int .u64 (u4:Int)],32,true⟩,⟨(p6 0).N,#[.int .u8 (g0:Int),.int .u8 (g1:Int),.int .u8 (g2:Int),.int .u8 (g3:Int),.int .u8 (g4:Int)],33,true⟩,⟨(p66 7).N,#[.bool sa,.slice (p66 3).A (p66 3).N (p66 3).C,.slice (p66 3).A' (p66 3).N' (p66 3).C'],28,true⟩]
  replace hG:GsAt (gM W65.heap.size (p66 3).A (p66 3).N (p66 3).C va :: gM W65.heap.size (p66 3).A' (p66 3).N' (p66 3).C' da :: _) W66:=⟨And.left (hF.fx 3),And.right (hF.fx 3),hF.gx⟩
  clear hF hK
  have hK:=hJ
  clear hJ
  have z66:=hS.fr.size
  refine wq hS hG hK (fun p67=>[.l 136 (.agg #[.int .i64 E,.int .i64 F]) 0 0,.v 137 (pT (p5 0).N 3),.l 138 (.int .u64 (u3:Int)) 2 3,.c (some 139) (cH W66.heap.size vb db fun x9 y9=>.tuple #[.agg #[.bool sb,x9,y9],.bool two]),.v 135 (.tuple #[.agg #[.bool sb,.slice (p67 3).A (p67 3).N (p67 3).C,.slice (p67 3).A' (p67 3).N' (p67 3).C'],.bool two]),.v 140 (.agg #[.bool sb,.slice (p67 3).A (p67 3).N (p67 3).C,.slice (p67 3).A' (p67 3).N' (p67 3).C']),.v 141 (.bool two),.n 19 #[.bool false,.slice none 0 0,.slice none 0 0] 28,.p 1007 0 [.bool sb,.slice (p67 3).A (p67 3).N (p67 3).C,.slice (p67 3).A' (p67 3).N' (p67 3).C'],.v 20 (.bool two)]) (fun p67=>[(3,pT (p1 1).N 0),(4,.bool false),(5,.bool true),(7,pT (p5 0).N 0),(8,pT (p6 0).N 0),(13,.int .i64 k),(14,.int .i64 k3),(17,pT (p66 7).N 0),(18,.bool one),(19,pT (p67 7).N 0),(20,.bool two)]) (fun p67=>?_) (fun p67 W67 T hF hJ=>?_)
  ·refine okl ?_
   refine okv ?_
   refine okl ?_
   refine okc (fun W cx=>as_h cx.hb (unhide HW3 _ cx.fr)) ?_
   iterate 3 refine okv ?_
   refine okn ?_
   refine okp ?_
   refine okv ?_
   exact ok_nil
  replace hS:=SymF.fc hS hF [1,2,3,4,1007] [⟨(p1 1).N,#[.bool s,.slice a1 n1 c1,.slice a2 n2 c2],28,true⟩,⟨(p5 0).N,#[ubx cA u3 u4,ubx cB u3 u4,ubx s u3 u4,.int .u64 (u3:Int),.int .u64 (u4:Int)],32,true⟩,⟨(p6 0).N,#[.int .u8 (g0:Int),.int .u8 (g1:Int),.int .u8 (g2:Int),.int .u8 (g3:Int),.int .u8 (g4:Int)],33,true⟩,⟨(p66 7).N,#[.bool sa,.slice (p66 3).A (p66 3).N (p66 3).C,.slice (p66 3).A' (p66 3).N' (p66 3).C'],28,true⟩,⟨(p67 7).N,#[.bool sb,.slice (p67 3).A (p67 3).N (p67 3).C,.slice (p67 3).A' (p67 3).N' (p67 3).C'],28,true⟩]
  replace hG:GsAt (gM W66.heap.size (p67 3).A (p67 3).N (p67 3).C vb :: gM W66.heap.size (p67 3).A' (p67 3).N' (p67 3).C' db :: _) W67:=⟨And.left (hF.fx 3),And.right (hF.fx 3),hF.gx⟩
  clear hF hK
  have hK:=hJ
  clear hJ
  refine wp_seq ?_
  refine wq hS hG hK (fun p68=>[.v 142 (.int .i64 k),.v 143 (.int .i64 k3),.v 144 (.bool false)]) (fun p68=>[(3,pT (p1 1).N 0),(4,.bool false),(5,.bool true),(7,pT (p5 0).N 0),(8,pT (p6 0).N 0),(17,pT (p66 7).N 0),(18,.bool one),(19,pT (p67 7).N 0),(20,.bool two),(144,.bool false)]) (fun p68=>?_) (fun p68 W68 T hF hJ=>?_)
  ·iterate 2 refine okv ?_
   refine okvb (beq_false_of_ne (show k≠k3 by omega)) ?_
   exact ok_nil
  replace hS:=SymF.fd hS hF
  replace hG:=hF.gx
  clear hF hK
  have hK:=hJ
  clear hJ
  refine wp_cond_false (hK.ew 144) (wp_skip ?_)
  refine then_n (wp_seq ?_)
  refine wq hS hG hK (fun p69=>[.v 156 (pT (p6 0).N 0),.l 157 (.int .u8 (g0:Int)) 2 0,.v 158 (.bool false)]) (fun p69=>[(3,pT (p1 1).N 0),(4,.bool false),(5,.bool true),(7,pT (p5 0).N 0),(8,pT (p6 0).N 0),(17,pT (p66 7).N 0),(18,.bool one),(19,pT (p67 7).N 0),(20,.bool two),(158,.bool false)]) (fun p69=>?_) (fun p69 W69 T hF hJ=>?_)
  ·refine okv ?_
   refine okl ?_
   refine okvb (beq_false_of_ne (show (g0:Int)≠0 by omega)) ?_
   exact ok_nil
  replace hS:=SymF.fd hS hF
  replace hG:=hF.gx
  clear hF hK
  have hK:=hJ
  clear hJ
  refine wp_cond_false (hK.ew 158) (wp_skip ?_)
  refine then_n (wp_seq ?_)
  refine wq hS hG hK (fun p70=>[.v 159 (.bool one)]) (fun p70=>[(3,pT (p1 1).N 0),(4,.bool false),(5,.bool true),(7,pT (p5 0).N 0),(8,pT (p6 0).N 0),(17,pT (p66 7).N 0),(18,.bool one),(19,pT (p67 7).N 0),(20,.bool two),(159,.bool one)]) (fun p70=>?_) (fun p70 W70 T hF hJ=>?_)
  ·refine okv ?_
   exact ok_nil
  replace hS:=SymF.fd hS hF
  replace hG:=hF.gx
  clear hF hK
  have hK:=hJ
  clear hJ
  cases one
  ·refine wp_cond_false (hK.ew 159) (wp_skip ?_)
   refine then_n (wp_seq ?_)
   refine wq hS hG hK (fun p71=>[.v 172 (.bool two)]) (fun p71=>[(3,pT (p1 1).N 0),(4,.bool false),(5,.bool true),(7,pT (p5 0).N 0),(8,pT (p6 0).N 0),(17,pT (p66 7).N 0),(18,.bool false),(19,pT (p67 7).N 0),(20,.bool two),(172,.bool two)]) (fun p71=>?_) (fun p71 W71 T hF hJ=>?_)
   ·refine okv ?_
    exact ok_nil
   replace hS:=SymF.fd hS hF
   replace hG:=hF.gx
   clear hF hK
   have hK:=hJ
   clear hJ
   have z71:=hS.fr.size
   cases two
   ·exact absurd hot (by decide)
   ·refine wp_cond_true (hK.ew 172) ?_
    refine wq hS hG hK (fun p72=>[.l 174 (.agg #[.bool s,.slice a1 n1 c1,.slice a2 n2 c2]) 0 0,.l 175 (.agg #[.bool sb,.slice (p67 3).A (p67 3).N (p67 3).C,.slice (p67 3).A' (p67 3).N' (p67 3).C']) 4 0,.c (some 176) (cV (.tuple #[.int .i64 (-1),.int .i64 0])),.v 173 (.tuple #[.int .i64 (-1),.int .i64 0]),.v 177 (.int .i64 (-1)),.v 178 (.int .i64 0),.v 23 (.int .i64 (-1)),.v 24 (.int .i64 0)]) (fun p72=>[(3,pT (p1 1).N 0),(4,.bool false),(5,.bool true),(7,pT (p5 0).N 0),(8,pT (p6 0).N 0),(17,pT (p66 7).N 0),(18,.bool false),(19,pT (p67 7).N 0),(20,.bool true),(23,.int .i64 (-1)),(24,.int .i64 0)]) (fun p72=>?_) (fun p72 W72 T hF hJ=>?_)
    ·iterate 2 refine okl ?_
     refine okc (fun W cx=>as_v (unhide HCb rfl rfl _ _ _ (p67 3).C _ _ (p67 3).C' cx.fr (Mine.num cx.G.1) (Mine.num cx.G.2.1))) ?_
     iterate 5 refine okv ?_
     exact ok_nil
    replace hS:=SymF.fd hS hF
    replace hG:=hF.gx
    clear hF hK
    have hK:=hJ
    clear hJ
    have z72:=hS.fr.size
    refine wq hS hG hK (fun p73=>[.v 179 (.int .i64 0),.v 180 (.bool false),.v 181 (.bool false),.v 182 (.int .i64 (-1)),.v 183 (.bool false),.v 184 (.bool false)]) (fun p73=>[(3,pT (p1 1).N 0),(4,.bool false),(5,.bool true),(7,pT (p5 0).N 0),(8,pT (p6 0).N 0),(17,pT (p66 7).N 0),(18,.bool false),(19,pT (p67 7).N 0),(20,.bool true),(184,.bool false)]) (fun p73=>?_) (fun p73 W73 T hF hJ=>?_)
    ·iterate 6 refine okv ?_
     exact ok_nil
    replace hS:=SymF.fd hS hF
    replace hG:=hF.gx
    clear hF hK
    have hK:=hJ
    clear hJ
    have z73:=hS.fr.size
    refine wp_cond_false (hK.ew 184) (wp_skip ?_)
    refine then_n (wp_seq ?_)
    refine wq hS hG hK (fun p74=>[.v 185 (.bool false),.v 186 (.bool true),.v 187 (.bool true),.k (some 188),.k (some 189),.v 190 (.bool true)]) (fun p74=>[(3,pT (p1 1).N 0),(4,.bool false),(5,.bool true),(7,pT (p5 0).N 0),(8,pT (p6 0).N 0),(17,pT (p66 7).N 0),(18,.bool false),(19,pT (p67 7).N 0),(20,.bool true),(190,.bool true)]) (fun p74=>?_) (fun p74 W74 T hF hJ=>?_)
    ·iterate 3 refine okv ?_
     iterate 2 refine okk ?_
     refine okv ?_
     exact ok_nil
    replace hS:=SymF.fd hS hF
    replace hG:=hF.gx
    clear hF hK
    have hK:=hJ
    clear hJ
    have z74:=hS.fr.size
    refine wp_cond_true (hK.ew 190) ?_
    refine wq hS hG hK (fun p75=>[.v 191 (.bool false),.v 192 (.bool false),.v 193 (.bool true),.v 194 (.bool true),.v 4 (.bool true)]) (fun p75=>[(3,pT (p1 1).N 0),(4,.bool true),(5,.bool true),(7,pT (p5 0).N 0),(8,pT (p6 0).N 0),(17,pT (p66 7).N 0),(18,.bool false),(19,pT (p67 7).N 0)]) (fun p75=>?_) (fun p75 W75 T hF hJ=>?_)
    ·iterate 5 refine okv ?_
     exact ok_nil
    replace hS:=SymF.fd hS hF
    replace hG:=hF.gx
    clear hF hK
    have hK:=hJ
    clear hJ
    have z75:=hS.fr.size
    refine wp_ret ?_
    refine then_r ?_
    exact sym_end hS hK (.bool true) [] [] (by kernel_rfl) (by kernel_rfl) ⟨rfl,hS.fr⟩
  ·refine wp_cond_true (hK.ew 159) ?_
   refine wq hS hG hK (fun p71=>[.l 161 (.agg #[.bool sa,.slice (p66 3).A (p66 3).N (p66 3).C,.slice (p66 3).A' (p66 3).N' (p66 3).C']) 3 0,.l 162 (.agg #[.bool s,.slice a1 n1 c1,.slice a2 n2 c2]) 0 0,.c (some 163) (cV (.tuple #[.int .i64 (-1),.int .i64 0])),.v 160 (.tuple #[.int .i64 (-1),.int .i64 0]),.v 164 (.int .i64 (-1)),.v 165 (.int .i64 0),.v 21 (.int .i64 (-1)),.v 22 (.int .i64 0)]) (fun p71=>[(3,pT (p1 1).N 0),(4,.bool false),(5,.bool true),(7,pT (p5 0).N 0),(8,pT (p6 0).N 0),(17,pT (p66 7).N 0),(18,.bool true),(19,pT (p67 7).N 0),(20,.bool two),(21,.int .i64 (-1)),(22,.int .i64 0)]) (fun p71=>?_) (fun p71 W71 T hF hJ=>?_)
   ·iterate 2 refine okl ?_
    refine okc (fun W cx=>as_v (unhide HCa rfl rfl _ _ _ (p66 3).C _ _ (p66 3).C' cx.fr (Mine.num cx.G.2.2.1) (Mine.num cx.G.2.2.2.1))) ?_
    iterate 5 refine okv ?_
    exact ok_nil
   replace hS:=SymF.fd hS hF
   replace hG:=hF.gx
   clear hF hK
   have hK:=hJ
   clear hJ
   have z71:=hS.fr.size
   refine wq hS hG hK (fun p72=>[.v 166 (.int .i64 0),.v 167 (.bool false),.v 168 (.bool false),.v 169 (.int .i64 (-1)),.v 170 (.bool false),.v 171 (.bool false)]) (fun p72=>[(3,pT (p1 1).N 0),(4,.bool false),(5,.bool true),(7,pT (p5 0).N 0),(8,pT (p6 0).N 0),(17,pT (p66 7).N 0),(18,.bool true),(19,pT (p67 7).N 0),(20,.bool two),(171,.bool false)]) (fun p72=>?_) (fun p72 W72 T hF hJ=>?_)
   ·iterate 6 refine okv ?_
    exact ok_nil
   replace hS:=SymF.fd hS hF
   replace hG:=hF.gx
   clear hF hK
   have hK:=hJ
   clear hJ
   have z72:=hS.fr.size
   refine wp_cond_false (hK.ew 171) (wp_skip ?_)
   refine then_n (wp_seq ?_)
   refine wq hS hG hK (fun p73=>[.v 172 (.bool two)]) (fun p73=>[(3,pT (p1 1).N 0),(4,.bool false),(5,.bool true),(7,pT (p5 0).N 0),(8,pT (p6 0).N 0),(17,pT (p66 7).N 0),(18,.bool true),(19,pT (p67 7).N 0),(20,.bool two),(172,.bool two)]) (fun p73=>?_) (fun p73 W73 T hF hJ=>?_)
   ·refine okv ?_
    exact ok_nil
   replace hS:=SymF.fd hS hF
   replace hG:=hF.gx
   clear hF hK
   have hK:=hJ
   clear hJ
   have z73:=hS.fr.size
   cases two
   ·refine wp_cond_false (hK.ew 172) (wp_skip ?_)
    refine then_n (wp_seq ?_)
    refine wq hS hG hK (fun p74=>[.v 185 (.bool true),.v 186 (.bool false),.v 187 (.bool false),.v 188 (.bool false),.v 189 (.bool true),.v 190 (.bool true)]) (fun p74=>[(3,pT (p1 1).N 0),(4,.bool false),(5,.bool true),(7,pT (p5 0).N 0),(8,pT (p6 0).N 0),(17,pT (p66 7).N 0),(18,.bool true),(19,pT (p67 7).N 0),(20,.bool false),(190,.bool true)]) (fun p74=>?_) (fun p74 W74 T hF hJ=>?_)
    ·iterate 6 refine okv ?_
     exact ok_nil
    replace hS:=SymF.fd hS hF
    replace hG:=hF.gx
    clear hF hK
    have hK:=hJ
    clear hJ
    have z74:=hS.fr.size
    refine wp_cond_true (hK.ew 190) ?_
    refine wq hS hG hK (fun p75=>[.v 191 (.bool true),.v 192 (.bool true),.k (some 193),.v 194 (.bool true),.v 4 (.bool true)]) (fun p75=>[(3,pT (p1 1).N 0),(4,.bool true),(5,.bool true),(7,pT (p5 0).N 0),(8,pT (p6 0).N 0),(17,pT (p66 7).N 0),(18,.bool true),(19,pT (p67 7).N 0)]) (fun p75=>?_) (fun p75 W75 T hF hJ=>?_)
    ·iterate 2 refine okv ?_
     refine okk ?_
     iterate 2 refine okv ?_
     exact ok_nil
    replace hS:=SymF.fd hS hF
    replace hG:=hF.gx
    clear hF hK
    have hK:=hJ
    clear hJ
    have z75:=hS.fr.size
    refine wp_ret ?_
    refine then_r ?_
    exact sym_end hS hK (.bool true) [] [] (by kernel_rfl) (by kernel_rfl) ⟨rfl,hS.fr⟩
   ·refine wp_cond_true (hK.ew 172) ?_
    refine wq hS hG hK (fun p74=>[.l 174 (.agg #[.bool s,.slice a1 n1 c1,.slice a2 n2 c2]) 0 0,.l 175 (.agg #[.bool sb,.slice (p67 3).A (p67 3).N (p67 3).C,.slice (p67 3).A' (p67 3).N' (p67 3).C']) 4 0,.c (some 176) (cV (.tuple #[.int .i64 (-1),.int .i64 0])),.v 173 (.tuple #[.int .i64 (-1),.int .i64 0]),.v 177 (.int .i64 (-1)),.v 178 (.int .i64 0),.v 23 (.int .i64 (-1)),.v 24 (.int .i64 0)]) (fun p74=>[(3,pT (p1 1).N 0),(4,.bool false),(5,.bool true),(7,pT (p5 0).N 0),(8,pT (p6 0).N 0),(17,pT (p66 7).N 0),(18,.bool true),(19,pT (p67 7).N 0),(20,.bool true),(23,.int .i64 (-1)),(24,.int .i64 0)]) (fun p74=>?_) (fun p74 W74 T hF hJ=>?_)
    ·iterate 2 refine okl ?_
     refine okc (fun W cx=>as_v (unhide HCb rfl rfl _ _ _ (p67 3).C _ _ (p67 3).C' cx.fr (Mine.num cx.G.1) (Mine.num cx.G.2.1))) ?_
     iterate 5 refine okv ?_
     exact ok_nil
    replace hS:=SymF.fd hS hF
    replace hG:=hF.gx
    clear hF hK
    have hK:=hJ
    clear hJ
    have z74:=hS.fr.size
    refine wq hS hG hK (fun p75=>[.v 179 (.int .i64 0),.v 180 (.bool false),.v 181 (.bool false),.v 182 (.int .i64 (-1)),.v 183 (.bool false),.v 184 (.bool false)]) (fun p75=>[(3,pT (p1 1).N 0),(4,.bool false),(5,.bool true),(7,pT (p5 0).N 0),(8,pT (p6 0).N 0),(17,pT (p66 7).N 0),(18,.bool true),(19,pT (p67 7).N 0),(20,.bool true),(184,.bool false)]) (fun p75=>?_) (fun p75 W75 T hF hJ=>?_)
    ·iterate 6 refine okv ?_
     exact ok_nil
    replace hS:=SymF.fd hS hF
    replace hG:=hF.gx
    clear hF hK
    have hK:=hJ
    clear hJ
    have z75:=hS.fr.size
    refine wp_cond_false (hK.ew 184) (wp_skip ?_)
    refine then_n (wp_seq ?_)
    refine wq hS hG hK (fun p76=>[.v 185 (.bool true),.v 186 (.bool false),.v 187 (.bool false),.v 188 (.bool true),.v 189 (.bool false),.v 190 (.bool false)]) (fun p76=>[(3,pT (p1 1).N 0),(4,.bool false),(5,.bool true),(7,pT (p5 0).N 0),(8,pT (p6 0).N 0),(17,pT (p66 7).N 0),(18,.bool true),(19,pT (p67 7).N 0),(20,.bool true),(190,.bool false)]) (fun p76=>?_) (fun p76 W76 T hF hJ=>?_)
    ·iterate 6 refine okv ?_
     exact ok_nil
    replace hS:=SymF.fd hS hF
    replace hG:=hF.gx
    clear hF hK
    have hK:=hJ
    clear hJ
    refine wp_cond_false (hK.ew 190) (wp_skip (then_n ?_))
    refine wq hS hG hK (fun p77=>[.l 195 (.agg #[.bool s,.slice a1 n1 c1,.slice a2 n2 c2]) 0 0,.l 196 (.agg #[.bool sa,.slice (p66 3).A (p66 3).N (p66 3).C,.slice (p66 3).A' (p66 3).N' (p66 3).C']) 3 0,.l 197 (.agg #[.bool sb,.slice (p67 3).A (p67 3).N (p67 3).C,.slice (p67 3).A' (p67 3).N' (p67 3).C']) 4 0,.l 198 (.agg #[ubx cA u3 u4,ubx cB u3 u4,ubx s u3 u4,.int .u64 (u3:Int),.int .u64 (u4:Int)]) 1 0,.c (some 199) (cV (.bool true)),.v 4 (.bool true)]) (fun p77=>[(3,pT (p1 1).N 0),(4,.bool true),(5,.bool true),(8,pT (p6 0).N 0),(17,pT (p66 7).N 0),(18,.bool true),(20,.bool true)]) (fun p77=>?_) (fun p77 W77 T hF hJ=>?_)
    ·iterate 4 refine okl ?_
     refine okc (fun W cx=>as_v (unhide HH rfl rfl rfl _ _ _ (p66 3).C _ _ (p66 3).C' _ _ (p67 3).C _ _ (p67 3).C' cx.fr (Mine.num cx.G.2.2.1) (Mine.num cx.G.2.2.2.1) (Mine.num cx.G.1) (Mine.num cx.G.2.1))) ?_
     refine okv ?_
     exact ok_nil
    replace hS:=SymF.fd hS hF
    replace hG:=hF.gx
    clear hF hK
    have hK:=hJ
    clear hJ
    refine wp_ret ?_
    exact sym_end hS hK (.bool true) [] [] (by kernel_rfl) (by kernel_rfl) ⟨rfl,hS.fr⟩
 ·have hx:=hown rfl
  refine wq hS hG hK (fun p48=>[.v 91 (.int .i64 0),.v 92 (pT (p6 0).N 0),.l 93 (.int .u8 (g0:Int)) 3 0,.v 94 (.bool false),.v 95 (pT (p6 0).N 0),.l 96 (.int .u8 (g0:Int)) 3 0,.v 97 (.bool false),.v 98 (.bool false),.v 99 (.bool false),.v 100 (.int .i64 0),.v 101 (pT (p6 0).N 0),.l 102 (.int .u8 (g0:Int)) 3 0,.v 103 (.bool false),.v 104 (.bool false),.k (some 105),.k (some 106),.k (some 107),.k (some 108),.k (some 109),.v 110 (.bool false),.v 111 (.bool false),.v 112 (.bool false),.v 113 (.int .i64 0),.v 114 (pT (p5 0).N 0),.l 115 (ubx cA u3 u4) 2 0,.v 116 (pT (p5 0).N 4),.l 117 (.int .u64 (u4:Int)) 2 4,.v 118 (.bool false),.v 119 (.bool false),.k (some 120),.k (some 121),.k (some 122),.k (some 123),.k (some 124),.k (some 125),.v 126 (.bool false),.v 127 (.bool false)]) (fun p48=>[(2,pT (p1 0).N 0),(3,pT (p1 1).N 0),(4,.bool false),(5,.bool true),(7,pT (p5 0).N 0),(8,pT (p6 0).N 0),(13,.int .i64 k),(14,.int .i64 k3),(16,.int .i64 0),(127,.bool false)]) (fun p48=>?_) (fun p48 W48 T hF hJ=>?_)
  ·iterate 2 refine okv ?_
   refine okl ?_
   refine okvb ((bne_eq_false_iff_eq.2 (show (g0:Int) = 0 by omega))) ?_
   refine okv ?_
   refine okl ?_
   refine okvb ((bne_eq_false_iff_eq.2 (show (g0:Int) = 0 by omega))) ?_
   iterate 4 refine okv ?_
   refine okl ?_
   refine okvb ((bne_eq_false_iff_eq.2 (show (g0:Int) = 0 by omega))) ?_
   refine okv ?_
   iterate 5 refine okk ?_
   iterate 5 refine okv ?_
   refine okl ?_
   refine okv ?_
   refine okl ?_
   refine okvb (ubx_eq3 cA hx.2.1) ?_
   refine okv ?_
   iterate 6 refine okk ?_
   iterate 2 refine okv ?_
   exact ok_nil
  replace hS:=SymF.fd hS hF
  replace hG:=hF.gx
  clear hF hK
  have hK:=hJ
  clear hJ
  have z48:=hS.fr.size
  refine wp_cond_false (hK.ew 127) (wp_skip ?_)
  refine inb_n (then_n ?_)
  refine wg hS hG hK (fun p49=>[.v 89 (.int .i64 0),.v 90 (.int .i64 1),.v 16 (.int .i64 1)]) (fun p49=>[(2,pT (p1 0).N 0),(3,pT (p1 1).N 0),(4,.bool false),(5,.bool true),(7,pT (p5 0).N 0),(8,pT (p6 0).N 0),(13,.int .i64 k),(14,.int .i64 k3),(16,.int .i64 1)]) (fun p49=>?_) (fun p49 W49 T hF hJ=>?_)
  ·iterate 3 refine okv ?_
   exact ok_nil
  replace hS:=SymF.fd hS hF
  replace hG:=hF.gx
  clear hF hK
  have hK:=hJ
  clear hJ
  have z49:=hS.fr.size
  refine then_n (rounds_s (wp_seq ?_))
  refine wq hS hG hK (fun p50=>[.v 87 (.int .i64 1),.v 88 (.bool true)]) (fun p50=>[(2,pT (p1 0).N 0),(3,pT (p1 1).N 0),(4,.bool false),(5,.bool true),(7,pT (p5 0).N 0),(8,pT (p6 0).N 0),(13,.int .i64 k),(14,.int .i64 k3),(16,.int .i64 1),(88,.bool true)]) (fun p50=>?_) (fun p50 W50 T hF hJ=>?_)
  ·iterate 2 refine okv ?_
   exact ok_nil
  replace hS:=SymF.fd hS hF
  replace hG:=hF.gx
  clear hF hK
  have hK:=hJ
  clear hJ
  have z50:=hS.fr.size
  refine wp_cond_true (hK.ew 88) (wp_skip ?_)
  refine then_n (wp_seq (wp_block ?_))
  refine wq hS hG hK (fun p51=>[.v 91 (.int .i64 1),.v 92 (pT (p6 0).N 1),.l 93 (.int .u8 (g1:Int)) 3 1,.v 94 (.bool false),.v 95 (pT (p6 0).N 0),.l 96 (.int .u8 (g0:Int)) 3 0,.v 97 (.bool false),.v 98 (.bool false),.v 99 (.bool false),.v 100 (.int .i64 1),.v 101 (pT (p6 0).N 1),.l 102 (.int .u8 (g1:Int)) 3 1,.v 103 (.bool false),.v 104 (.bool false),.k (some 105),.k (some 106),.k (some 107),.k (some 108),.k (some 109),.v 110 (.bool false),.v 111 (.bool false),.v 112 (.bool false),.v 113 (.int .i64 1),.v 114 (pT (p5 0).N 1),.l 115 (ubx cB u3 u4) 2 1,.v 116 (pT (p5 0).N 4),.l 117 (.int .u64 (u4:Int)) 2 4,.v 118 (.bool false),.v 119 (.bool false),.k (some 120),.k (some 121),.k (some 122),.k (some 123),.k (some 124),.k (some 125),.v 126 (.bool false),.v 127 (.bool false)]) (fun p51=>[(2,pT (p1 0).N 0),(3,pT (p1 1).N 0),(4,.bool false),(5,.bool true),(7,pT (p5 0).N 0),(8,pT (p6 0).N 0),(13,.int .i64 k),(14,.int .i64 k3),(16,.int .i64 1),(127,.bool false)]) (fun p51=>?_) (fun p51 W51 T hF hJ=>?_)
  ·iterate 2 refine okv ?_
   refine okl ?_
   refine okvb ((bne_eq_false_iff_eq.2 (show (g1:Int) = 0 by omega))) ?_
   refine okv ?_
   refine okl ?_
   refine okvb ((bne_eq_false_iff_eq.2 (show (g0:Int) = 0 by omega))) ?_
   iterate 4 refine okv ?_
   refine okl ?_
   refine okvb ((bne_eq_false_iff_eq.2 (show (g1:Int) = 0 by omega))) ?_
   refine okv ?_
   iterate 5 refine okk ?_
   iterate 5 refine okv ?_
   refine okl ?_
   refine okv ?_
   refine okl ?_
   refine okvb (ubx_eq3 cB hx.2.1) ?_
   refine okv ?_
   iterate 6 refine okk ?_
   iterate 2 refine okv ?_
   exact ok_nil
  replace hS:=SymF.fd hS hF
  replace hG:=hF.gx
  clear hF hK
  have hK:=hJ
  clear hJ
  have z51:=hS.fr.size
  refine wp_cond_false (hK.ew 127) (wp_skip ?_)
  refine inb_n (then_n ?_)
  refine wg hS hG hK (fun p52=>[.v 89 (.int .i64 1),.v 90 (.int .i64 2),.v 16 (.int .i64 2)]) (fun p52=>[(2,pT (p1 0).N 0),(3,pT (p1 1).N 0),(4,.bool false),(5,.bool true),(7,pT (p5 0).N 0),(8,pT (p6 0).N 0),(13,.int .i64 k),(14,.int .i64 k3),(16,.int .i64 2)]) (fun p52=>?_) (fun p52 W52 T hF hJ=>?_)
  ·iterate 3 refine okv ?_
   exact ok_nil
  replace hS:=SymF.fd hS hF
  replace hG:=hF.gx
  clear hF hK
  have hK:=hJ
  clear hJ
  have z52:=hS.fr.size
  refine then_n (rounds_s (wp_seq ?_))
  refine wq hS hG hK (fun p53=>[.v 87 (.int .i64 2),.v 88 (.bool true)]) (fun p53=>[(2,pT (p1 0).N 0),(3,pT (p1 1).N 0),(4,.bool false),(5,.bool true),(7,pT (p5 0).N 0),(8,pT (p6 0).N 0),(13,.int .i64 k),(14,.int .i64 k3),(16,.int .i64 2),(88,.bool true)]) (fun p53=>?_) (fun p53 W53 T hF hJ=>?_)
  ·iterate 2 refine okv ?_
   exact ok_nil
  replace hS:=SymF.fd hS hF
  replace hG:=hF.gx
  clear hF hK
  have hK:=hJ
  clear hJ
  have z53:=hS.fr.size
  refine wp_cond_true (hK.ew 88) (wp_skip ?_)
  refine then_n (wp_seq (wp_block ?_))
  refine wq hS hG hK (fun p54=>[.v 91 (.int .i64 2),.v 92 (pT (p6 0).N 2),.l 93 (.int .u8 (g2:Int)) 3 2,.v 94 (.bool false),.v 95 (pT (p6 0).N 0),.l 96 (.int .u8 (g0:Int)) 3 0,.v 97 (.bool false),.v 98 (.bool false),.v 99 (.bool false),.v 100 (.int .i64 2),.v 101 (pT (p6 0).N 2),.l 102 (.int .u8 (g2:Int)) 3 2,.v 103 (.bool false),.v 104 (.bool false),.k (some 105),.k (some 106),.k (some 107),.k (some 108),.k (some 109),.v 110 (.bool false),.v 111 (.bool false),.v 112 (.bool false),.v 113 (.int .i64 2),.v 114 (pT (p5 0).N 2),.l 115 (ubx s u3 u4) 2 2,.v 116 (pT (p5 0).N 4),.l 117 (.int .u64 (u4:Int)) 2 4,.v 118 (.bool false),.v 119 (.bool false),.k (some 120),.k (some 121),.k (some 122),.k (some 123),.k (some 124),.k (some 125),.v 126 (.bool false),.v 127 (.bool false)]) (fun p54=>[(2,pT (p1 0).N 0),(3,pT (p1 1).N 0),(4,.bool false),(5,.bool true),(7,pT (p5 0).N 0),(8,pT (p6 0).N 0),(13,.int .i64 k),(14,.int .i64 k3),(16,.int .i64 2),(127,.bool false)]) (fun p54=>?_) (fun p54 W54 T hF hJ=>?_)
  ·iterate 2 refine okv ?_
   refine okl ?_
   refine okvb ((bne_eq_false_iff_eq.2 (show (g2:Int) = 0 by omega))) ?_
   refine okv ?_
   refine okl ?_
   refine okvb ((bne_eq_false_iff_eq.2 (show (g0:Int) = 0 by omega))) ?_
   iterate 4 refine okv ?_
   refine okl ?_
   refine okvb ((bne_eq_false_iff_eq.2 (show (g2:Int) = 0 by omega))) ?_
   refine okv ?_
   iterate 5 refine okk ?_
   iterate 5 refine okv ?_
   refine okl ?_
   refine okv ?_
   refine okl ?_
   refine okvb (ubx_eq3 s hx.2.1) ?_
   refine okv ?_
   iterate 6 refine okk ?_
   iterate 2 refine okv ?_
   exact ok_nil
  replace hS:=SymF.fd hS hF
  replace hG:=hF.gx
  clear hF hK
  have hK:=hJ
  clear hJ
  have z54:=hS.fr.size
  refine wp_cond_false (hK.ew 127) (wp_skip ?_)
  refine inb_n (then_n ?_)
  refine wg hS hG hK (fun p55=>[.v 89 (.int .i64 2),.v 90 (.int .i64 3),.v 16 (.int .i64 3)]) (fun p55=>[(2,pT (p1 0).N 0),(3,pT (p1 1).N 0),(4,.bool false),(5,.bool true),(7,pT (p5 0).N 0),(8,pT (p6 0).N 0),(13,.int .i64 k),(14,.int .i64 k3),(16,.int .i64 3)]) (fun p55=>?_) (fun p55 W55 T hF hJ=>?_)
  ·iterate 3 refine okv ?_
   exact ok_nil
  replace hS:=SymF.fd hS hF
  replace hG:=hF.gx
  clear hF hK
  have hK:=hJ
  clear hJ
  have z55:=hS.fr.size
  refine then_n (rounds_s (wp_seq ?_))
  refine wq hS hG hK (fun p56=>[.v 87 (.int .i64 3),.v 88 (.bool true)]) (fun p56=>[(2,pT (p1 0).N 0),(3,pT (p1 1).N 0),(4,.bool false),(5,.bool true),(7,pT (p5 0).N 0),(8,pT (p6 0).N 0),(13,.int .i64 k),(14,.int .i64 k3),(16,.int .i64 3),(88,.bool true)]) (fun p56=>?_) (fun p56 W56 T hF hJ=>?_)
  ·iterate 2 refine okv ?_
   exact ok_nil
  replace hS:=SymF.fd hS hF
  replace hG:=hF.gx
  clear hF hK
  have hK:=hJ
  clear hJ
  have z56:=hS.fr.size
  refine wp_cond_true (hK.ew 88) (wp_skip ?_)
  refine then_n (wp_seq (wp_block ?_))
  refine wq hS hG hK (fun p57=>[.v 91 (.int .i64 3),.v 92 (pT (p6 0).N 3),.l 93 (.int .u8 (g3:Int)) 3 3,.v 94 (.bool false),.v 95 (pT (p6 0).N 0),.l 96 (.int .u8 (g0:Int)) 3 0,.v 97 (.bool false),.v 98 (.bool false),.v 99 (.bool false),.v 100 (.int .i64 3),.v 101 (pT (p6 0).N 3),.l 102 (.int .u8 (g3:Int)) 3 3,.v 103 (.bool false),.v 104 (.bool false),.k (some 105),.k (some 106),.k (some 107),.k (some 108),.k (some 109),.v 110 (.bool false),.v 111 (.bool false),.v 112 (.bool false),.v 113 (.int .i64 3),.v 114 (pT (p5 0).N 3),.l 115 (.int .u64 (u3:Int)) 2 3,.v 116 (pT (p5 0).N 4),.l 117 (.int .u64 (u4:Int)) 2 4,.v 118 (.bool false),.v 119 (.bool false),.k (some 120),.k (some 121),.k (some 122),.k (some 123),.k (some 124),.k (some 125),.v 126 (.bool false),.v 127 (.bool false)]) (fun p57=>[(2,pT (p1 0).N 0),(3,pT (p1 1).N 0),(4,.bool false),(5,.bool true),(7,pT (p5 0).N 0),(8,pT (p6 0).N 0),(13,.int .i64 k),(14,.int .i64 k3),(16,.int .i64 3),(127,.bool false)]) (fun p57=>?_) (fun p57 W57 T hF hJ=>?_)
  ·iterate 2 refine okv ?_
   refine okl ?_
   refine okvb ((bne_eq_false_iff_eq.2 (show (g3:Int) = 0 by omega))) ?_
   refine okv ?_
   refine okl ?_
   refine okvb ((bne_eq_false_iff_eq.2 (show (g0:Int) = 0 by omega))) ?_
   iterate 4 refine okv ?_
   refine okl ?_
   refine okvb ((bne_eq_false_iff_eq.2 (show (g3:Int) = 0 by omega))) ?_
   refine okv ?_
   iterate 5 refine okk ?_
   iterate 5 refine okv ?_
   refine okl ?_
   refine okv ?_
   refine okl ?_
   refine okvb ((bne_eq_false_iff_eq.2 (show (u3:Int) = (u4:Int) by omega))) ?_
   refine okv ?_
   iterate 6 refine okk ?_
   iterate 2 refine okv ?_
   exact ok_nil
  replace hS:=SymF.fd hS hF
  replace hG:=hF.gx
  clear hF hK
  have hK:=hJ
  clear hJ
  have z57:=hS.fr.size
  refine wp_cond_false (hK.ew 127) (wp_skip ?_)
  refine inb_n (then_n ?_)
  refine wg hS hG hK (fun p58=>[.v 89 (.int .i64 3),.v 90 (.int .i64 4),.v 16 (.int .i64 4)]) (fun p58=>[(2,pT (p1 0).N 0),(3,pT (p1 1).N 0),(4,.bool false),(5,.bool true),(7,pT (p5 0).N 0),(8,pT (p6 0).N 0),(13,.int .i64 k),(14,.int .i64 k3),(16,.int .i64 4)]) (fun p58=>?_) (fun p58 W58 T hF hJ=>?_)
  ·iterate 3 refine okv ?_
   exact ok_nil
  replace hS:=SymF.fd hS hF
  replace hG:=hF.gx
  clear hF hK
  have hK:=hJ
  clear hJ
  have z58:=hS.fr.size
  refine then_n (rounds_s (wp_seq ?_))
  refine wq hS hG hK (fun p59=>[.v 87 (.int .i64 4),.v 88 (.bool true)]) (fun p59=>[(2,pT (p1 0).N 0),(3,pT (p1 1).N 0),(4,.bool false),(5,.bool true),(7,pT (p5 0).N 0),(8,pT (p6 0).N 0),(13,.int .i64 k),(14,.int .i64 k3),(16,.int .i64 4),(88,.bool true)]) (fun p59=>?_) (fun p59 W59 T hF hJ=>?_)
  ·iterate 2 refine okv ?_
   exact ok_nil
  replace hS:=SymF.fd hS hF
  replace hG:=hF.gx
  clear hF hK
  have hK:=hJ
  clear hJ
  have z59:=hS.fr.size
  refine wp_cond_true (hK.ew 88) (wp_skip ?_)
  refine then_n (wp_seq (wp_block ?_))
  refine wq hS hG hK (fun p60=>[.v 91 (.int .i64 4),.v 92 (pT (p6 0).N 4),.l 93 (.int .u8 (g4:Int)) 3 4,.v 94 (.bool false),.v 95 (pT (p6 0).N 0),.l 96 (.int .u8 (g0:Int)) 3 0,.v 97 (.bool false),.v 98 (.bool false),.v 99 (.bool false),.v 100 (.int .i64 4),.v 101 (pT (p6 0).N 4),.l 102 (.int .u8 (g4:Int)) 3 4,.v 103 (.bool false),.v 104 (.bool false),.k (some 105),.k (some 106),.k (some 107),.k (some 108),.k (some 109),.v 110 (.bool false),.v 111 (.bool false),.v 112 (.bool false),.v 113 (.int .i64 4),.v 114 (pT (p5 0).N 4),.l 115 (.int .u64 (u4:Int)) 2 4,.v 116 (pT (p5 0).N 4),.l 117 (.int .u64 (u4:Int)) 2 4,.v 118 (.bool false),.v 119 (.bool false),.k (some 120),.k (some 121),.k (some 122),.k (some 123),.k (some 124),.k (some 125),.v 126 (.bool false),.v 127 (.bool false)]) (fun p60=>[(2,pT (p1 0).N 0),(3,pT (p1 1).N 0),(4,.bool false),(5,.bool true),(7,pT (p5 0).N 0),(8,pT (p6 0).N 0),(13,.int .i64 k),(14,.int .i64 k3),(16,.int .i64 4),(127,.bool false)]) (fun p60=>?_) (fun p60 W60 T hF hJ=>?_)
  ·iterate 2 refine okv ?_
   refine okl ?_
   refine okvb ((bne_eq_false_iff_eq.2 (show (g4:Int) = 0 by omega))) ?_
   refine okv ?_
   refine okl ?_
   refine okvb ((bne_eq_false_iff_eq.2 (show (g0:Int) = 0 by omega))) ?_
   iterate 4 refine okv ?_
   refine okl ?_
   refine okvb ((bne_eq_false_iff_eq.2 (show (g4:Int) = 0 by omega))) ?_
   refine okv ?_
   iterate 5 refine okk ?_
   iterate 5 refine okv ?_
   refine okl ?_
   refine okv ?_
   refine okl ?_
   refine okvb (bne_self_eq_false (u4:Int)) ?_
   refine okv ?_
   iterate 6 refine okk ?_
   iterate 2 refine okv ?_
   exact ok_nil
  replace hS:=SymF.fd hS hF
  replace hG:=hF.gx
  clear hF hK
  have hK:=hJ
  clear hJ
  have z60:=hS.fr.size
  refine wp_cond_false (hK.ew 127) (wp_skip ?_)
  refine inb_n (then_n ?_)
  refine wg hS hG hK (fun p61=>[.v 89 (.int .i64 4),.v 90 (.int .i64 5),.v 16 (.int .i64 5)]) (fun p61=>[(2,pT (p1 0).N 0),(3,pT (p1 1).N 0),(4,.bool false),(5,.bool true),(7,pT (p5 0).N 0),(8,pT (p6 0).N 0),(13,.int .i64 k),(14,.int .i64 k3),(16,.int .i64 5)]) (fun p61=>?_) (fun p61 W61 T hF hJ=>?_)
  ·iterate 3 refine okv ?_
   exact ok_nil
  replace hS:=SymF.fd hS hF
  replace hG:=hF.gx
  clear hF hK
  have hK:=hJ
  clear hJ
  have z61:=hS.fr.size
  refine then_n (rounds_s (wp_seq ?_))
  refine wq hS hG hK (fun p62=>[.v 87 (.int .i64 5),.v 88 (.bool false)]) (fun p62=>[(2,pT (p1 0).N 0),(3,pT (p1 1).N 0),(4,.bool false),(5,.bool true),(7,pT (p5 0).N 0),(8,pT (p6 0).N 0),(13,.int .i64 k),(14,.int .i64 k3),(16,.int .i64 5),(88,.bool false)]) (fun p62=>?_) (fun p62 W62 T hF hJ=>?_)
  ·iterate 2 refine okv ?_
   exact ok_nil
  replace hS:=SymF.fd hS hF
  replace hG:=hF.gx
  clear hF hK
  have hK:=hJ
  clear hJ
  have z62:=hS.fr.size
  refine wp_cond_false (hK.ew 88) (wp_exit ?_)
  refine then_x (then_x ?_)
  refine inb_x (then_n ?_)
  refine wq hS hG hK (fun p63=>[.l 129 (.agg #[.int .i64 E,.int .i64 F]) 0 0,.v 130 (pT (p5 0).N 4),.l 131 (.int .u64 (u4:Int)) 2 4,.c (some 132) (cH W62.heap.size va da fun x9 y9=>.tuple #[.agg #[.bool sa,x9,y9],.bool one]),.v 128 (.tuple #[.agg #[.bool sa,.slice (p63 3).A (p63 3).N (p63 3).C,.slice (p63 3).A' (p63 3).N' (p63 3).C'],.bool one]),.v 133 (.agg #[.bool sa,.slice (p63 3).A (p63 3).N (p63 3).C,.slice (p63 3).A' (p63 3).N' (p63 3).C']),.v 134 (.bool one),.n 17 #[.bool false,.slice none 0 0,.slice none 0 0] 28,.p 1007 0 [.bool sa,.slice (p63 3).A (p63 3).N (p63 3).C,.slice (p63 3).A' (p63 3).N' (p63 3).C'],.v 18 (.bool one)]) (fun p63=>[(2,pT (p1 0).N 0),(3,pT (p1 1).N 0),(4,.bool false),(5,.bool true),(7,pT (p5 0).N 0),(8,pT (p6 0).N 0),(13,.int .i64 k),(14,.int .i64 k3),(17,pT (p63 7).N 0),(18,.bool one)]) (fun p63=>?_) (fun p63 W63 T hF hJ=>?_)
  ·refine okl ?_
   refine okv ?_
   refine okl ?_
   refine okc (fun W cx=>as_h cx.hb (unhide HW4 _ cx.fr)) ?_
   iterate 3 refine okv ?_
   refine okn ?_
   refine okp ?_
   refine okv ?_
   exact ok_nil
  replace hS:=SymF.fc hS hF [0,1,2,3,1007] [⟨(p1 0).N,#[.int .i64 E,.int .i64 F],23,true⟩,⟨(p1 1).N,#[.bool s,.slice a1 n1 c1,.slice a2 n2 c2],28,true⟩,⟨(p5 0).N,#[ubx cA u3 u4,ubx cB u3 u4,ubx s u3 u4,.int .u64 (u3:Int),.int .u64 (u4:Int)],32,true⟩,⟨(p6 0).N,#[.int .u8 (g0:Int),.int .u8 (g1:Int),.int .u8 (g2:Int),.int .u8 (g3:Int),.int .u8 (g4:Int)],33,true⟩,⟨(p63 7).N,#[.bool sa,.slice (p63 3).A (p63 3).N (p63 3).C,.slice (p63 3).A' (p63 3).N' (p63 3).C'],28,true⟩]
  replace hG:GsAt (gM W62.heap.size (p63 3).A (p63 3).N (p63 3).C va :: gM W62.heap.size (p63 3).A' (p63 3).N' (p63 3).C' da :: _) W63:=⟨And.left (hF.fx 3),And.right (hF.fx 3),hF.gx⟩
  clear hF hK
  have hK:=hJ
  clear hJ
  have z63:=hS.fr.size
  refine wq hS hG hK (fun p64=>[.l 136 (.agg #[.int .i64 E,.int .i64 F]) 0 0,.v 137 (pT (p5 0).N 3),.l 138 (.int .u64 (u3:Int)) 2 3,.c (some 139) (cH W63.heap.size vb db fun x9 y9=>.tuple #[.agg #[.bool sb,x9,y9],.bool two]),.v 135 (.tuple #[.agg #[.bool sb,.slice (p64 3).A (p64 3).N (p64 3).C,.slice (p64 3).A' (p64 3).N' (p64 3).C'],.bool two]),.v 140 (.agg #[.bool sb,.slice (p64 3).A (p64 3).N (p64 3).C,.slice (p64 3).A' (p64 3).N' (p64 3).C']),.v 141 (.bool two),.n 19 #[.bool false,.slice none 0 0,.slice none 0 0] 28,.p 1007 0 [.bool sb,.slice (p64 3).A (p64 3).N (p64 3).C,.slice (p64 3).A' (p64 3).N' (p64 3).C'],.v 20 (.bool two)]) (fun p64=>[(3,pT (p1 1).N 0),(4,.bool false),(5,.bool true),(7,pT (p5 0).N 0),(8,pT (p6 0).N 0),(13,.int .i64 k),(14,.int .i64 k3),(17,pT (p63 7).N 0),(18,.bool one),(19,pT (p64 7).N 0),(20,.bool two)]) (fun p64=>?_) (fun p64 W64 T hF hJ=>?_)
  ·refine okl ?_
   refine okv ?_
   refine okl ?_
   refine okc (fun W cx=>as_h cx.hb (unhide HW3 _ cx.fr)) ?_
   iterate 3 refine okv ?_
   refine okn ?_
   refine okp ?_
   refine okv ?_
   exact ok_nil
  replace hS:=SymF.fc hS hF [1,2,3,4,1007] [⟨(p1 1).N,#[.bool s,.slice a1 n1 c1,.slice a2 n2 c2],28,true⟩,⟨(p5 0).N,#[ubx cA u3 u4,ubx cB u3 u4,ubx s u3 u4,.int .u64 (u3:Int),.int .u64 (u4:Int)],32,true⟩,⟨(p6 0).N,#[.int .u8 (g0:Int),.int .u8 (g1:Int),.int .u8 (g2:Int),.int .u8 (g3:Int),.int .u8 (g4:Int)],33,true⟩,⟨(p63 7).N,#[.bool sa,.slice (p63 3).A (p63 3).N (p63 3).C,.slice (p63 3).A' (p63 3).N' (p63 3).C'],28,true⟩,⟨(p64 7).N,#[.bool sb,.slice (p64 3).A (p64 3).N (p64 3).C,.slice (p64 3).A' (p64 3).N' (p64 3).C'],28,true⟩]
  replace hG:GsAt (gM W63.heap.size (p64 3).A (p64 3).N (p64 3).C vb :: gM W63.heap.size (p64 3).A' (p64 3).N' (p64 3).C' db :: _) W64:=⟨And.left (hF.fx 3),And.right (hF.fx 3),hF.gx⟩
  clear hF hK
  have hK:=hJ
  clear hJ
  have z64:=hS.fr.size
  refine wp_seq ?_
  refine wq hS hG hK (fun p65=>[.v 142 (.int .i64 k),.v 143 (.int .i64 k3),.v 144 (.bool true)]) (fun p65=>[(3,pT (p1 1).N 0),(4,.bool false),(5,.bool true),(7,pT (p5 0).N 0),(8,pT (p6 0).N 0),(17,pT (p63 7).N 0),(18,.bool one),(19,pT (p64 7).N 0),(20,.bool two),(144,.bool true)]) (fun p65=>?_) (fun p65 W65 T hF hJ=>?_)
  ·iterate 2 refine okv ?_
   refine okvb (beq_iff_eq.2 (show k = k3 by omega)) ?_
   exact ok_nil
  replace hS:=SymF.fd hS hF
  replace hG:=hF.gx
  clear hF hK
  have hK:=hJ
  clear hJ
  have z65:=hS.fr.size
  refine wp_cond_true (hK.ew 144) ?_
  cases one
  ·exact absurd hx.1 (by decide)
  ·refine wq hS hG hK (fun p66=>[.v 145 (pT (p6 0).N 0),.l 146 (.int .u8 (g0:Int)) 2 0,.v 147 (.bool true),.v 148 (.bool true),.v 149 (.bool true),.v 150 (.bool true),.v 151 (.bool true),.l 152 (.agg #[.bool sa,.slice (p63 3).A (p63 3).N (p63 3).C,.slice (p63 3).A' (p63 3).N' (p63 3).C']) 3 0,.l 153 (.agg #[.bool s,.slice a1 n1 c1,.slice a2 n2 c2]) 0 0,.c (some 154) (cV (.bool true)),.v 155 (.bool true),.v 4 (.bool true)]) (fun p66=>[(3,pT (p1 1).N 0),(4,.bool true),(5,.bool true),(7,pT (p5 0).N 0),(8,pT (p6 0).N 0),(17,pT (p63 7).N 0),(18,.bool true),(19,pT (p64 7).N 0),(20,.bool two)]) (fun p66=>?_) (fun p66 W66 T hF hJ=>?_)
   ·refine okv ?_
    refine okl ?_
    refine okvb (beq_iff_eq.2 (show (g0:Int) = 0 by omega)) ?_
    iterate 4 refine okv ?_
    iterate 2 refine okl ?_
    refine okc (fun W cx=>as_v (unhide HE rfl _ _ _ (p63 3).C _ _ (p63 3).C' cx.fr (Mine.num cx.G.2.2.1) (Mine.num cx.G.2.2.2.1))) ?_
    iterate 2 refine okv ?_
    exact ok_nil
   replace hS:=SymF.fd hS hF
   replace hG:=hF.gx
   clear hF hK
   have hK:=hJ
   clear hJ
   have z66:=hS.fr.size
   refine wp_ret ?_
   refine then_r ?_
   exact sym_end hS hK (.bool true) [] [] (by kernel_rfl) (by kernel_rfl) ⟨rfl,hS.fr⟩
theorem rats_all {E F S I B G:Nat} (h:Fm E F S I) (hB:B = 2 ^ (E - 1) - 1) (hG:(G:Int) = (B:Int)+(F:Int) - 1) {p d:Nat} (h0:0 < p) (hd:0 < d) (hg:Nat.gcd p d = 1) (bp:blen p≤100000) (bd:blen d≤100000) (hr1:blen d≤blen p+4096) (hr2:blen p≤blen d+4096) :
  ∃ (M K:Nat) (X:Int) (r0 ρ w:Nat),Plc p d B F G M K X r0 ρ w∧∀ (md:Nat) (s ng:Bool) (a:Option Addr) (n c:Nat) (b:Option Addr) (k l:Nat) (W:World),md≤4→Tb W→Num W a n p→Num W b k d →
   Calls Tryz.prog 7 #[.agg #[.int .i64 (E:Int),.int .i64 (F:Int)],.agg #[.bool s,.slice a n c,.slice b k l],.bool ng,.int .u8 (md:Int)] W fun e w'=>e = .returned (.tuple #[.int .u64 (bitsR S I md s (rowR B F md s M K X):Int),.int .u8 (flagR B F I md s M K X:Int),.int .i64 0])∧Below W.heap.size W w':=by
 obtain ⟨K,hK⟩:∃ K,K = 204300:=⟨_,rfl⟩
 have hl:sLift p d≤4096:=by unfold sLift; omega
 have hmo:sMore p d≤100065:=by unfold sMore; omega
 have hall:sAll p d < 2 ^ K:=by
  have e:sAll p d = p * 2 ^ (sLift p d+sMore p d):=by unfold sAll sOne; rw [Nat.pow_add,Nat.mul_assoc]
  rw [e]
  refine Nat.lt_of_lt_of_le (Nat.mul_lt_mul_of_pos_right (bl_blen p).1 (Nat.pow_pos (by omega))) ?_
  rw [← Nat.pow_add]
  exact Nat.pow_le_pow_right (by omega) (by omega)
 have hpos:0 < sAll p d:=Nat.mul_pos (Nat.mul_pos h0 (Nat.pow_pos (by omega))) (Nat.pow_pos (by omega))
 have hdm:=Nat.div_add_mod (sAll p d) d
 have hdl:sAll p d / d≤sAll p d:=Nat.div_le_self _ _
 have a1:0 < sAns p d:=by
  unfold sAns
  split
  ·next e=>
   rw [e] at hdm
   rcases Nat.eq_zero_or_pos (sAll p d / d) with q|q
   ·rw [q] at hdm; omega
   ·omega
  ·omega
 have a2:sAns p d < 2 ^ (K+1):=by
  rw [Nat.pow_succ]
  unfold sAns
  split <;> omega
 obtain ⟨z,⟨q,hq⟩,hz⟩:=tz_ex a1 a2
 obtain ⟨r0,ρ,w,hP⟩:=std_place (std_of h0 hd hq (bl_blen _)) (B:=B) h.fo.f52 h.fo.f1 hG
 refine ⟨_,_,_,r0,ρ,w,hP,fun md s ng a n c b k l W hm hT h1 h2=>?_⟩
 exact sratio_is h hB hm ng s a b n c k l p d W hT h1 h2 (by omega) hd bp bd hr1 hr2 (hide fun W q1 q2=>rchk_ok s a b n c k l p d h0 hd hg W q1 q2) z (2 * q+1) (blen (2 * q+1)) _ ⟨q,hq⟩ (by omega) (by rw [hq,Nat.mul_div_cancel_left _ (Nat.pow_pos (by omega))]) rfl (bl_blen _)
theorem Plc.whole {p d B F G M K:Nat} {X:Int} {r0 ρ w:Nat} (h:Plc p d B F G M K X r0 ρ w) {S I:Nat} (hI:r0 < I) (h0:ρ = 0) (md:Nat) (s:Bool):bitsR S I md s (rowR B F md s M K X) = (if s then S else 0)+r0∧flagR B F I md s M K X = 0:=by
 have hr:rowR B F md s M K X = r0:=by rw [h.row,if_pos h0]; omega
 refine ⟨?_,?_⟩
 ·unfold bitsR; rw [hr,if_pos hI]
 ·unfold flagR; rw [hr,if_neg (by omega),if_pos (h.ex.2 h0)]
theorem fth_one (md:Nat) (s o:Bool):fth md s o 1 = fth md s false 1:=by
 match md with
 | 0=>rfl
 | 1=>rfl
 | 2=>rfl
 | 3=>rfl
 | n+4=>rfl
theorem fth_inf {md:Nat} {s o:Bool} {h:Int} (hh:h≤1) (hf:fth md s o h = true):fth md s false 1 = true:=by
 rw [← fth_one md s o]; exact fth_mono hh hf
theorem s3_le (a b:Nat):s3 a b≤1:=by unfold s3; split <;> (try split) <;> omega
theorem flag_bits (x:Nat) (h:x = 1∨x = 3∨x = 5):x≠0∧bits BinOp.and .u8 (x:Int) 1 = 1:=by
 rcases h with rfl|rfl|rfl <;> exact ⟨by decide,by decide⟩
theorem Plc.apart {p d B F G M K:Nat} {X:Int} {r0 ρ w:Nat} (h:Plc p d B F G M K X r0 ρ w) (hd:0 < d) {S I:Nat} (hI0:0 < I) (hne:¬ (ρ = 0∧r0 < I)) :
  ∃ (lo:Nat) (hh:Int),lo < I∧pv F lo * d < p * 2 ^ G∧(lo+1 < I→p * 2 ^ G < pv F (lo+1) * d∧hh = s3 (2 * (p * 2 ^ G)) ((pv F lo+pv F (lo+1)) * d)) ∧
   ∀ md s,bitsR S I md s (rowR B F md s M K X) = (if s then S else 0)+(lo+if fth md s (decide (lo % 2 = 1)) hh then 1 else 0)∧(flagR B F I md s M K X = 1∨flagR B F I md s M K X = 3∨flagR B F I md s M K X = 5):=by
 by_cases hI:r0 < I
 ·have h0:ρ≠0:=fun e=>hne ⟨e,hI⟩
  have hlt:pv F r0 * d < p * 2 ^ G:=Nat.lt_of_le_of_ne h.le fun e=>h0 (h.eq.2 e)
  refine ⟨r0,hlf ρ w,hI,hlt,fun _=>⟨h.lt,h.half⟩,fun md s=>⟨?_,?_⟩⟩
  ·have hr:=h.row md s
   rw [if_neg h0] at hr
   unfold bitsR
   congr 1
   rw [hr]
   by_cases hf:fth md s (decide (r0 % 2 = 1)) (hlf ρ w) = true
   ·rw [if_pos hf]
    by_cases h1:r0+1 < I
    ·rw [if_pos h1]
    ·rw [if_neg h1,if_pos (fth_inf (by rw [hlf_s3]; exact s3_le _ _) hf),show I = r0+1 by omega]
   ·rw [if_neg hf,Nat.add_zero,if_pos hI]
  ·unfold flagR
   rw [if_neg (c:=lastP B F K X≤X) (fun e=>h0 (h.ex.1 e))]
   split
   ·exact Or.inr (Or.inl rfl)
   ·split
    ·exact Or.inr (Or.inr rfl)
    ·exact Or.inl rfl
 ·obtain ⟨J,rfl⟩:∃ J,I = J+1:=⟨I - 1,by omega⟩
  have hge:∀ md s,J+1≤rowR B F md s M K X:=fun md s=>by rw [h.row]; omega
  refine ⟨J,1,by omega,?_,fun h1=>absurd h1 (by omega),fun md s=>⟨?_,?_⟩⟩
  ·refine Nat.lt_of_lt_of_le (Nat.mul_lt_mul_of_pos_right (pv_lt (show J < r0 by omega)) hd) h.le
  ·unfold bitsR
   congr 1
   rw [if_neg (show ¬ rowR B F md s M K X < J+1 by have:=hge md s; omega),fth_one md s (decide (J % 2 = 1))]
   split <;> rfl
  ·unfold flagR
   rw [if_pos (hge md s)]; exact Or.inr (Or.inl rfl)
theorem num_len {w:World} {a:Option Addr} {n m:Nat} (h:Num w a n m) (hn:n≤60):blen m≤1920:=by
 obtain ⟨xs,hx,_,hw,_,hv,_⟩:=h
 have h1:=Pl.val_lt hw
 rw [hv,hx] at h1
 obtain ⟨K,hK⟩:∃ K,K = 1920:=⟨_,rfl⟩
 rw [← hK]
 refine (bl_blen m).le_of ?_
 rw [show (4294967296:Nat) = 2 ^ 32 from rfl,← Nat.pow_mul] at h1
 exact Nat.lt_of_lt_of_le h1 (Nat.pow_le_pow_right (by decide) (by omega))
theorem rk_any (s:Bool) (a b:Option Addr) (n c k l:Nat) (xs ys:List Nat) (w:World) (hn:xs.length = n) (hnb:n≤9223372036854775807) (hl:Lim w a xs) (hw:Pl.Wf xs) (hk:ys.length = k) (hkb:k≤9223372036854775807) (hly:Lim w b ys) (hwy:Pl.Wf ys) :
  (∀ W:World,Below w.heap.size w W→Calls Tryz.prog 20 #[.agg #[.bool s,.slice a n c,.slice b k l]] W fun e W'=>e = .returned (.int .i64 20)∧Below W.heap.size W W') ∨
  ∃ p d:Nat,Num w a n p∧Num w b k d∧0 < d∧Nat.gcd p d = 1∧(s = true→0 < p)∧∀ W:World,Num W a n p→Num W b k d→Calls Tryz.prog 20 #[.agg #[.bool s,.slice a n c,.slice b k l]] W fun e W'=>e = .returned (.int .i64 0)∧Below W.heap.size W W':=by
 rcases Nat.eq_zero_or_pos k with z'|z'
 ·subst z'
  exact Or.inl fun W _=>rk_den s a n c b l W
 by_cases hneg:s = true∧n = 0
 ·obtain ⟨rfl,rfl⟩:=hneg
  exact Or.inl fun W _=>rk_neg a c b k l z' W
 have hs:s = true→0 < n:=fun e=>Nat.pos_of_ne_zero fun e2=>hneg ⟨e,e2⟩
 by_cases hc:chk2 xs ys = 0
 case neg=>
  refine Or.inl fun W hW=>?_
  have hG:∀ W':World,Below W.heap.size W W'→Calls Tryz.prog 50 #[.agg #[.slice a n c],.agg #[.slice b k l]] W' fun e w'=>e = .returned (.tuple #[.agg #[.slice none 0 0],.int .i64 (chk2 xs ys)])∧Below W'.heap.size W' w':=fun W' hW'=>gcd_bad a n c xs b k l ys W' hn hk hnb hkb (hl.below (gr_trans hW hW')) (hly.below (gr_trans hW hW')) hc
  cases s
  ·exact rk_err_f a n c b k l _ W z' (by simpa using hc) (hide hG)
  ·exact rk_err_t a n c b k l _ W z' (hs rfl) (by simpa using hc) (hide hG)
 have c1:chk xs = 0:=by
  unfold chk2 at hc
  by_cases h:chk xs = 0
  ·exact h
  ·rw [if_neg h] at hc; exact absurd hc h
 have c2:chk ys = 0:=by unfold chk2 at hc; rw [if_pos c1] at hc; exact hc
 have gN:=dck_num hn hl hw c1
 have gD:=dck_num hk hly hwy c2
 generalize Pl.val xs = p at *
 generalize Pl.val ys = d at *
 have hD0:0 < d:=by have:=gD.zero; omega
 by_cases hg:Nat.gcd p d = 1
 case neg=>
  refine Or.inl fun W hW=>?_
  cases s
  ·exact rk_big_f a n c p b k l d W z' (gN.kept hW) (gD.kept hW) hg
  ·exact rk_big_t a n c p b k l d W z' (hs rfl) (gN.kept hW) (gD.kept hW) hg
 refine Or.inr ⟨p,d,gN,gD,hD0,hg,fun e=>?_,fun W q1 q2=>?_⟩
 ·have:=hs e; have:=gN.zero; omega
 ·cases s
  ·exact rk_ok_f a n c p b k l d W z' q1 q2 hg
  ·exact rk_ok_t a n c p b k l d W z' (hs rfl) q1 q2 hg
theorem asked_any (E F:Int) (s:Bool) (a b:Option Addr) (n c k l:Nat) (xs ys:List Nat) (w:World) (hn:xs.length = n) (hnb:n≤9223372036854775807) (hl:Lim w a xs) (hw:Pl.Wf xs) (hk:ys.length = k) (hkb:k≤9223372036854775807) (hly:Lim w b ys) (hwy:Pl.Wf ys) :
  (∀ W:World,Below w.heap.size w W→Calls Tryz.prog 6 #[.agg #[.int .i64 E,.int .i64 F],.agg #[.bool s,.slice a n c,.slice b k l]] W fun e W'=>e = .returned (.bool false)∧Below W.heap.size W W') ∨
  ((∃ e f:Nat,E = (e:Int)∧F = (f:Int)∧Fo e f)∧∃ p d:Nat,Num w a n p∧Num w b k d∧0 < d∧Nat.gcd p d = 1∧(s = true→0 < p)∧blen p≤1920∧blen d≤1920∧(∀ W:World,Num W a n p→Num W b k d→Calls Tryz.prog 20 #[.agg #[.bool s,.slice a n c,.slice b k l]] W fun e W'=>e = .returned (.int .i64 0)∧Below W.heap.size W W') ∧
   ∀ W:World,Below w.heap.size w W→Calls Tryz.prog 6 #[.agg #[.int .i64 E,.int .i64 F],.agg #[.bool s,.slice a n c,.slice b k l]] W fun e W'=>e = .returned (.bool true)∧Below W.heap.size W W'):=by
 by_cases hf:E < 2∨11 < E∨F < 1∨52 < F
 ·exact Or.inl fun W _=>sask_f W E F s a b n c k l 5 (by decide) (hide fun W' _=>check_bad E F W' hf)
 obtain ⟨e,rfl⟩:∃ e:Nat,E = (e:Int):=⟨E.toNat,by omega⟩
 obtain ⟨f,rfl⟩:∃ f:Nat,F = (f:Int):=⟨F.toNat,by omega⟩
 have hfo:Fo e f:=⟨by omega,by omega,by omega,by omega⟩
 rcases rk_any s a b n c k l xs ys w hn hnb hl hw hk hkb hly hwy with h|⟨p,d,gN,gD,hD0,hg,hs,hC⟩
 ·exact Or.inl fun W hW=>sask_r W e f s a b n c k l 20 (by decide) (hide fun W' _=>check_ok e f W' hfo) (hide fun W' hW'=>h W' (gr_trans hW hW'))
 by_cases h6:60 < n
 ·exact Or.inl fun W hW=>sask_n W e f s a b n c k l h6 (hide fun W' _=>check_ok e f W' hfo) (hide fun W' hW'=>hC W' (gN.kept (gr_trans hW hW')) (gD.kept (gr_trans hW hW')))
 by_cases h7:60 < k
 ·exact Or.inl fun W hW=>sask_d W e f s a b n c k l (by omega) h7 (hide fun W' _=>check_ok e f W' hfo) (hide fun W' hW'=>hC W' (gN.kept (gr_trans hW hW')) (gD.kept (gr_trans hW hW')))
 exact Or.inr ⟨⟨e,f,rfl,rfl,hfo⟩,p,d,gN,gD,hD0,hg,hs,num_len gN (by omega),num_len gD (by omega),hC,fun W hW=>sask_ok W e f s a b n c k l (by omega) (by omega) (hide fun W' _=>check_ok e f W' hfo) (hide fun W' hW'=>hC W' (gN.kept (gr_trans hW hW')) (gD.kept (gr_trans hW hW')))⟩
def capR (I md:Nat) (s:Bool) (r:Nat):Nat:=if r < I then r else if fth md s false 1 then I else I - 1
def kI (s:Bool) (r:Nat):Int:=if s then -(r:Int) else (r:Int)
theorem sratio_zero {E F S I md:Nat} (h:Fm E F S I) (hm:md≤4) (a b:Option Addr) (n c k l d:Nat) (w:World) (hT:Tb w) (h1:Num w a n 0) (h2:Num w b k d) (HC:∀ W:World,Num W a n 0→Num W b k d→Calls Tryz.prog 20 #[.agg #[.bool false,.slice a n c,.slice b k l]] W fun e W'=>e = .returned (.int .i64 0)∧Below W.heap.size W W') :
  Calls Tryz.prog 7 #[.agg #[.int .i64 E,.int .i64 F],.agg #[.bool false,.slice a n c,.slice b k l],.bool false,.int .u8 (md:Int)] w fun e w'=>e = .returned (.tuple #[.int .u64 ((0:Nat):Int),.int .u8 ((0:Nat):Int),.int .i64 0])∧Below w.heap.size w w':=by
 refine sratio_w w E F md false false a b n c k l 0 d 0 0 h1 h2 (hide fun W hb q1 q2=>?_)
 refine sscaled_is W E F md false false a b n c k l 0 d 0 0 0 0 h.fo hm (hT.kept hb) q1 q2 (hide HC) (hide fun W _ r1 _=>?_) (hide fun W B9 A N C g=>?_)
 ·exact (sstand_0 W false a b n c k l r1).mono fun e W' ⟨h1,h2⟩=>⟨⟨none,0,0,h1,⟨[],rfl,Or.inl ⟨rfl,rfl⟩,Pl.wf_nil,Pl.norm_nil,rfl,by omega⟩⟩,h2⟩
 ·obtain rfl:=g.num.zero.2 rfl
  exact rounded_nought E F 0 md false h.fo A C W ⟨pow_pos2 _,pow_pos2 _,by simp⟩
theorem key_any {E F S I:Nat} (h:Fm E F S I) (s:Bool) (r:Nat) (hr:r < S) (W:World):Calls Tryz.prog 8 #[.agg #[.int .i64 (E:Int),.int .i64 (F:Int)],.int .u64 (((if s then S else 0)+r:Nat):Int)] W fun e w'=>e = .returned (.int .i64 (kI s r))∧Below W.heap.size W w':=by
 have hS:S = 2 ^ (E+F):=by rw [Nat.add_comm]; exact h.hS
 have h63:E+F≤63:=by have:=h.fo.sum; omega
 cases s
 ·rw [show ((if false = true then S else 0)+r:Nat) = r from by simp]
  exact skey_lo W E F (E+F) S r rfl h63 hS h.s63 hr
 ·exact skey_hi W E F (E+F) S r rfl h63 hS h.s63 hr
theorem same_shape (s t:Bool) (a1 a2 a3 a4:Option Addr) (n1 n2 n3 n4 c1 c2 c3 c4:Nat) (he:(s == t && decide (n1 = n3) && decide (n2 = n4)) = false) (w:World)  :
  Calls Tryz.prog 26 #[.agg #[.bool s,.slice a1 n1 c1,.slice a2 n2 c2,.bool t,.slice a3 n3 c3,.slice a4 n4 c4]] w fun e w'=>e = .returned (.bool false)∧Below w.heap.size w w':=by
 have hEq:=eq_shape s t n1 n2 n3 n4
 rw [he] at hEq
 clear he
 go_enter Tryz.func26,Tryz.ntmps26
 go_wp2_with fail
 refine wp_region_any (by kernel_rfl) ?_
 refine wpAny_det [some (3,.pointer (some ⟨w.heap.size,0,none⟩)),some (4,.agg #[.bool s,.slice a1 n1 c1,.slice a2 n2 c2]),some (5,.agg #[.bool s,.int .i64 (n1:Int),.int .i64 (n2:Int)]),some (6,.pointer (some ⟨w.heap.size,3,none⟩)),some (7,.agg #[.bool t,.slice a3 n3 c3,.slice a4 n4 c4]),some (8,.agg #[.bool t,.int .i64 (n3:Int),.int .i64 (n4:Int)]),some (9,.bool false),some (10,.bool false),some (11,undef),some (12,undef),some (13,undef),some (14,undef),some (15,undef),some (16,undef),some (17,undef),some (18,undef),some (19,undef),some (20,.bool false),some (21,.bool false),some (22,undef),some (23,undef),some (24,undef),some (25,undef),some (26,undef),some (27,undef),some (28,undef),some (29,undef),some (30,undef),some (31,.bool false),some (2,.bool false)]
  (fun _ W9=>Fs w W9 [⟨w.heap.size,#[.bool s,.slice a1 n1 c1,.slice a2 n2 c2,.bool t,.slice a3 n3 c3,.slice a4 n4 c4],67⟩]) _ _ rfl (by kernel_rfl) rfl rfl ?_ ?_ (Fs.one w _ _).drew
 ·intro l9 t9 W9 i9 hD hi9 hl9 hM
  obtain ⟨o9,ho9,hd9⟩:=(mem_ready.1 hi9).2
  have hin9:i9 < 30:=by
   by_cases h:i9 < 30
   ·exact h
   ·rw [Array.getElem?_eq_none (by rw [hD.len]; simp; omega)] at hl9; cases hl9
  have hcase:i9 = 0∨i9 = 1∨i9 = 2∨i9 = 3∨i9 = 4∨i9 = 5∨i9 = 6∨i9 = 7∨i9 = 8∨i9 = 9∨i9 = 10∨i9 = 11∨i9 = 12∨i9 = 13∨i9 = 14∨i9 = 15∨i9 = 16∨i9 = 17∨i9 = 18∨i9 = 19∨i9 = 20∨i9 = 21∨i9 = 22∨i9 = 23∨i9 = 24∨i9 = 25∨i9 = 26∨i9 = 27∨i9 = 28∨i9 = 29:=by omega
  clear hin9
  rcases hcase with rfl|rfl|rfl|rfl|rfl|rfl|rfl|rfl|rfl|rfl|rfl|rfl|rfl|rfl|rfl|rfl|rfl|rfl|rfl|rfl|rfl|rfl|rfl|rfl|rfl|rfl|rfl|rfl|rfl|rfl
  ·cases ho9
   have r1:=hD.old 1 _ rfl rfl
   refine wpOp_step rfl fun K hK=>?_
   go_simp
   exact hK _ _ ⟨rfl,hM⟩
  ·cases ho9
   have r3:=hD.od hd9 0 3 _ rfl (by simp)
   have hM0:=hM
   have Q_:=hM0.cellAt (b:=w.heap.size) (cs:=#[.bool s,.slice a1 n1 c1,.slice a2 n2 c2,.bool t,.slice a3 n3 c3,.slice a4 n4 c4]) (t:=67) (by simp)
   have c9_0:=Q_ 0 _ rfl
   have c9_1:=Q_ 1 _ rfl
   have c9_2:=Q_ 2 _ rfl
   clear Q_
   clear hM0
   refine wpOp_step rfl fun K hK=>?_
   go_simp
   exact hK _ _ ⟨rfl,hM⟩
  ·cases ho9
   have r4:=hD.od hd9 1 4 _ rfl (by simp)
   refine wpOp_step rfl fun K hK=>?_
   go_simp
   go_wp2_with fail
   refine (shapeOf_any _ _ _ _ _ _ _ _).mono ?_
   rintro en w9 ⟨rfl,hb9⟩
   exact hK _ _ ⟨rfl,hM.kept hb9⟩
  ·cases ho9
   have r1:=hD.old 1 _ rfl rfl
   refine wpOp_step rfl fun K hK=>?_
   go_simp
   exact hK _ _ ⟨rfl,hM⟩
  ·cases ho9
   have r6:=hD.od hd9 3 6 _ rfl (by simp)
   have hM0:=hM
   have Q_:=hM0.cellAt (b:=w.heap.size) (cs:=#[.bool s,.slice a1 n1 c1,.slice a2 n2 c2,.bool t,.slice a3 n3 c3,.slice a4 n4 c4]) (t:=67) (by simp)
   have c9_0:=Q_ 3 _ rfl
   have c9_1:=Q_ 4 _ rfl
   have c9_2:=Q_ 5 _ rfl
   clear Q_
   clear hM0
   refine wpOp_step rfl fun K hK=>?_
   go_simp
   exact hK _ _ ⟨rfl,hM⟩
  ·cases ho9
   have r7:=hD.od hd9 4 7 _ rfl (by simp)
   refine wpOp_step rfl fun K hK=>?_
   go_simp
   go_wp2_with fail
   refine (shapeOf_any _ _ _ _ _ _ _ _).mono ?_
   rintro en w9 ⟨rfl,hb9⟩
   exact hK _ _ ⟨rfl,hM.kept hb9⟩
  ·cases ho9
   have r5:=hD.od hd9 2 5 _ rfl (by simp)
   have r8:=hD.od hd9 5 8 _ rfl (by simp)
   refine wpOp_step rfl fun K hK=>?_
   go_simp
   exact hK _ _ ⟨act_eq (by rfl),hM⟩
  ·cases ho9
   have r9:=hD.od hd9 6 9 _ rfl (by simp)
   refine wpOp_step rfl fun K hK=>?_
   go_simp
   exact hK _ _ ⟨rfl,hM⟩
  ·cases ho9
   have r10:=hD.on 7 10 _ rfl (getD_true (hd9 ⟨7,.guard⟩ (by simp) rfl))
   refine wpOp_step rfl fun K hK=>?_
   go_simp
   exact hK _ _ ⟨rfl,hM⟩
  ·cases ho9
   have r10:=hD.on 7 10 _ rfl (getD_true (hd9 ⟨7,.guard⟩ (by simp) rfl))
   refine wpOp_step rfl fun K hK=>?_
   go_simp
   exact hK _ _ ⟨rfl,hM⟩
  ·cases ho9
   have r10:=hD.on 7 10 _ rfl (getD_true (hd9 ⟨7,.guard⟩ (by simp) rfl))
   refine wpOp_step rfl fun K hK=>?_
   go_simp
   exact hK _ _ ⟨rfl,hM⟩
  ·cases ho9
   have r10:=hD.on 7 10 _ rfl (getD_true (hd9 ⟨7,.guard⟩ (by simp) rfl))
   refine wpOp_step rfl fun K hK=>?_
   go_simp
   exact hK _ _ ⟨rfl,hM⟩
  ·cases ho9
   have r10:=hD.on 7 10 _ rfl (getD_true (hd9 ⟨7,.guard⟩ (by simp) rfl))
   refine wpOp_step rfl fun K hK=>?_
   go_simp
   exact hK _ _ ⟨rfl,hM⟩
  ·cases ho9
   have r10:=hD.on 7 10 _ rfl (getD_true (hd9 ⟨7,.guard⟩ (by simp) rfl))
   refine wpOp_step rfl fun K hK=>?_
   go_simp
   exact hK _ _ ⟨rfl,hM⟩
  ·cases ho9
   have r10:=hD.on 7 10 _ rfl (getD_true (hd9 ⟨7,.guard⟩ (by simp) rfl))
   refine wpOp_step rfl fun K hK=>?_
   go_simp
   exact hK _ _ ⟨rfl,hM⟩
  ·cases ho9
   have r10:=hD.on 7 10 _ rfl (getD_true (hd9 ⟨7,.guard⟩ (by simp) rfl))
   refine wpOp_step rfl fun K hK=>?_
   go_simp
   exact hK _ _ ⟨rfl,hM⟩
  ·cases ho9
   have r10:=hD.on 7 10 _ rfl (getD_true (hd9 ⟨7,.chain⟩ (by simp) rfl))
   refine wpOp_step rfl fun K hK=>?_
   go_simp
   exact hK _ _ ⟨rfl,hM⟩
  ·cases ho9
   have r10:=hD.od hd9 7 10 _ rfl (by simp)
   have r19:=hD.od hd9 16 19 _ rfl (by simp)
   refine wpOp_step rfl fun K hK=>?_
   go_simp
   exact hK _ _ ⟨rfl,hM⟩
  ·cases ho9
   have r20:=hD.od hd9 17 20 _ rfl (by simp)
   refine wpOp_step rfl fun K hK=>?_
   go_simp
   exact hK _ _ ⟨rfl,hM⟩
  ·cases ho9
   have r21:=hD.on 18 21 _ rfl (getD_true (hd9 ⟨18,.guard⟩ (by simp) rfl))
   refine wpOp_step rfl fun K hK=>?_
   go_simp
   exact hK _ _ ⟨rfl,hM⟩
  ·cases ho9
   have r21:=hD.on 18 21 _ rfl (getD_true (hd9 ⟨18,.guard⟩ (by simp) rfl))
   refine wpOp_step rfl fun K hK=>?_
   go_simp
   exact hK _ _ ⟨rfl,hM⟩
  ·cases ho9
   have r21:=hD.on 18 21 _ rfl (getD_true (hd9 ⟨18,.guard⟩ (by simp) rfl))
   refine wpOp_step rfl fun K hK=>?_
   go_simp
   exact hK _ _ ⟨rfl,hM⟩
  ·cases ho9
   have r21:=hD.on 18 21 _ rfl (getD_true (hd9 ⟨18,.guard⟩ (by simp) rfl))
   refine wpOp_step rfl fun K hK=>?_
   go_simp
   exact hK _ _ ⟨rfl,hM⟩
  ·cases ho9
   have r21:=hD.on 18 21 _ rfl (getD_true (hd9 ⟨18,.guard⟩ (by simp) rfl))
   refine wpOp_step rfl fun K hK=>?_
   go_simp
   exact hK _ _ ⟨rfl,hM⟩
  ·cases ho9
   have r21:=hD.on 18 21 _ rfl (getD_true (hd9 ⟨18,.guard⟩ (by simp) rfl))
   refine wpOp_step rfl fun K hK=>?_
   go_simp
   exact hK _ _ ⟨rfl,hM⟩
  ·cases ho9
   have r21:=hD.on 18 21 _ rfl (getD_true (hd9 ⟨18,.guard⟩ (by simp) rfl))
   refine wpOp_step rfl fun K hK=>?_
   go_simp
   exact hK _ _ ⟨rfl,hM⟩
  ·cases ho9
   have r21:=hD.on 18 21 _ rfl (getD_true (hd9 ⟨18,.guard⟩ (by simp) rfl))
   refine wpOp_step rfl fun K hK=>?_
   go_simp
   exact hK _ _ ⟨rfl,hM⟩
  ·cases ho9
   have r21:=hD.on 18 21 _ rfl (getD_true (hd9 ⟨18,.chain⟩ (by simp) rfl))
   refine wpOp_step rfl fun K hK=>?_
   go_simp
   exact hK _ _ ⟨rfl,hM⟩
  ·cases ho9
   have r21:=hD.od hd9 18 21 _ rfl (by simp)
   have r30:=hD.od hd9 27 30 _ rfl (by simp)
   refine wpOp_step rfl fun K hK=>?_
   go_simp
   exact hK _ _ ⟨rfl,hM⟩
  ·cases ho9
   have r31:=hD.od hd9 28 31 _ rfl (by simp)
   refine wpOp_step rfl fun K hK=>?_
   go_simp
   exact hK _ _ ⟨rfl,hM⟩
 ·intro l9 W9 hl9 hM
  have hS:=hM
  clear hM
  simp only [Puts.lay,List.setIfInBounds_toArray,List.set_cons_zero,List.set_cons_succ]
  obtain ⟨⟨ya,yb,yc,yd,ye,yf,-⟩,-⟩:=hS.cells
  clear hEq
  go_wp2
  go_ret
  exact ⟨rfl,hS.fr⟩
theorem same_f (s t:Bool) (a1 a2 a3 a4:Option Addr) (n1 n2 n3 n4 c1 c2 c3 c4:Nat) (he:(s == t && decide (n1 = n3) && decide (n2 = n4)) = true) (w:World) (HN:∀ W:World,Below w.heap.size w W→Calls Tryz.prog 61 #[.slice a1 n1 c1,.slice a3 n3 c3] W fun e w'=>e = .returned (.bool false)∧Below W.heap.size W w') :
  Calls Tryz.prog 26 #[.agg #[.bool s,.slice a1 n1 c1,.slice a2 n2 c2,.bool t,.slice a3 n3 c3,.slice a4 n4 c4]] w fun e w'=>e = .returned (.bool false)∧Below w.heap.size w w':=by
 have hEq:=eq_shape s t n1 n2 n3 n4
 rw [he] at hEq
 clear he
 go_enter Tryz.func26,Tryz.ntmps26
 go_wp2_with fail
 refine wp_region_any (by kernel_rfl) ?_
 refine wpAny_det [some (3,.pointer (some ⟨w.heap.size,0,none⟩)),some (4,.agg #[.bool s,.slice a1 n1 c1,.slice a2 n2 c2]),some (5,.agg #[.bool s,.int .i64 (n1:Int),.int .i64 (n2:Int)]),some (6,.pointer (some ⟨w.heap.size,3,none⟩)),some (7,.agg #[.bool t,.slice a3 n3 c3,.slice a4 n4 c4]),some (8,.agg #[.bool t,.int .i64 (n3:Int),.int .i64 (n4:Int)]),some (9,.bool true),some (10,.bool true),some (11,.pointer (some ⟨w.heap.size,0,none⟩)),some (12,.pointer (some ⟨w.heap.size,1,none⟩)),some (13,.pointer (some ⟨w.heap.size,1,none⟩)),some (14,.slice a1 n1 c1),some (15,.pointer (some ⟨w.heap.size,3,none⟩)),some (16,.pointer (some ⟨w.heap.size,4,none⟩)),some (17,.pointer (some ⟨w.heap.size,4,none⟩)),some (18,.slice a3 n3 c3),some (19,.bool false),some (20,.bool false),some (21,.bool false),some (22,undef),some (23,undef),some (24,undef),some (25,undef),some (26,undef),some (27,undef),some (28,undef),some (29,undef),some (30,undef),some (31,.bool false),some (2,.bool false)]
  (fun _ W9=>Fs w W9 [⟨w.heap.size,#[.bool s,.slice a1 n1 c1,.slice a2 n2 c2,.bool t,.slice a3 n3 c3,.slice a4 n4 c4],67⟩]) _ _ rfl (by kernel_rfl) rfl rfl ?_ ?_ (Fs.one w _ _).drew
 ·intro l9 t9 W9 i9 hD hi9 hl9 hM
  obtain ⟨o9,ho9,hd9⟩:=(mem_ready.1 hi9).2
  have hin9:i9 < 30:=by
   by_cases h:i9 < 30
   ·exact h
   ·rw [Array.getElem?_eq_none (by rw [hD.len]; simp; omega)] at hl9; cases hl9
  have hcase:i9 = 0∨i9 = 1∨i9 = 2∨i9 = 3∨i9 = 4∨i9 = 5∨i9 = 6∨i9 = 7∨i9 = 8∨i9 = 9∨i9 = 10∨i9 = 11∨i9 = 12∨i9 = 13∨i9 = 14∨i9 = 15∨i9 = 16∨i9 = 17∨i9 = 18∨i9 = 19∨i9 = 20∨i9 = 21∨i9 = 22∨i9 = 23∨i9 = 24∨i9 = 25∨i9 = 26∨i9 = 27∨i9 = 28∨i9 = 29:=by omega
  clear hin9
  rcases hcase with rfl|rfl|rfl|rfl|rfl|rfl|rfl|rfl|rfl|rfl|rfl|rfl|rfl|rfl|rfl|rfl|rfl|rfl|rfl|rfl|rfl|rfl|rfl|rfl|rfl|rfl|rfl|rfl|rfl|rfl
  ·cases ho9
   have r1:=hD.old 1 _ rfl rfl
   refine wpOp_step rfl fun K hK=>?_
   go_simp
   exact hK _ _ ⟨rfl,hM⟩
  ·cases ho9
   have r3:=hD.od hd9 0 3 _ rfl (by simp)
   have hM0:=hM
   have Q_:=hM0.cellAt (b:=w.heap.size) (cs:=#[.bool s,.slice a1 n1 c1,.slice a2 n2 c2,.bool t,.slice a3 n3 c3,.slice a4 n4 c4]) (t:=67) (by simp)
   have c9_0:=Q_ 0 _ rfl
   have c9_1:=Q_ 1 _ rfl
   have c9_2:=Q_ 2 _ rfl
   clear Q_
   clear hM0
   refine wpOp_step rfl fun K hK=>?_
   go_simp
   exact hK _ _ ⟨rfl,hM⟩
  ·cases ho9
   have r4:=hD.od hd9 1 4 _ rfl (by simp)
   refine wpOp_step rfl fun K hK=>?_
   go_simp
   go_wp2_with fail
   refine (shapeOf_any _ _ _ _ _ _ _ _).mono ?_
   rintro en w9 ⟨rfl,hb9⟩
   exact hK _ _ ⟨rfl,hM.kept hb9⟩
  ·cases ho9
   have r1:=hD.old 1 _ rfl rfl
   refine wpOp_step rfl fun K hK=>?_
   go_simp
   exact hK _ _ ⟨rfl,hM⟩
  ·cases ho9
   have r6:=hD.od hd9 3 6 _ rfl (by simp)
   have hM0:=hM
   have Q_:=hM0.cellAt (b:=w.heap.size) (cs:=#[.bool s,.slice a1 n1 c1,.slice a2 n2 c2,.bool t,.slice a3 n3 c3,.slice a4 n4 c4]) (t:=67) (by simp)
   have c9_0:=Q_ 3 _ rfl
   have c9_1:=Q_ 4 _ rfl
   have c9_2:=Q_ 5 _ rfl
   clear Q_
   clear hM0
   refine wpOp_step rfl fun K hK=>?_
   go_simp
   exact hK _ _ ⟨rfl,hM⟩
  ·cases ho9
   have r7:=hD.od hd9 4 7 _ rfl (by simp)
   refine wpOp_step rfl fun K hK=>?_
   go_simp
   go_wp2_with fail
   refine (shapeOf_any _ _ _ _ _ _ _ _).mono ?_
   rintro en w9 ⟨rfl,hb9⟩
   exact hK _ _ ⟨rfl,hM.kept hb9⟩
  ·cases ho9
   have r5:=hD.od hd9 2 5 _ rfl (by simp)
   have r8:=hD.od hd9 5 8 _ rfl (by simp)
   refine wpOp_step rfl fun K hK=>?_
   go_simp
   exact hK _ _ ⟨act_eq (by rfl),hM⟩
  ·cases ho9
   have r9:=hD.od hd9 6 9 _ rfl (by simp)
   refine wpOp_step rfl fun K hK=>?_
   go_simp
   exact hK _ _ ⟨rfl,hM⟩
  ·cases ho9
   have r10:=hD.on 7 10 _ rfl (getD_true (hd9 ⟨7,.guard⟩ (by simp) rfl))
   have r1:=hD.old 1 _ rfl rfl
   refine wpOp_step rfl fun K hK=>?_
   go_simp
   exact hK _ _ ⟨rfl,hM⟩
  ·cases ho9
   have r10:=hD.on 7 10 _ rfl (getD_true (hd9 ⟨7,.guard⟩ (by simp) rfl))
   have r11:=hD.od hd9 8 11 _ rfl (by simp)
   refine wpOp_step rfl fun K hK=>?_
   go_simp
   exact hK _ _ ⟨rfl,hM⟩
  ·cases ho9
   have r10:=hD.on 7 10 _ rfl (getD_true (hd9 ⟨7,.guard⟩ (by simp) rfl))
   have r12:=hD.od hd9 9 12 _ rfl (by simp)
   refine wpOp_step rfl fun K hK=>?_
   go_simp
   exact hK _ _ ⟨rfl,hM⟩
  ·cases ho9
   have r10:=hD.on 7 10 _ rfl (getD_true (hd9 ⟨7,.guard⟩ (by simp) rfl))
   have r13:=hD.od hd9 10 13 _ rfl (by simp)
   have hM0:=hM
   have c9_0:=hM0.cellAt (b:=w.heap.size) (cs:=#[.bool s,.slice a1 n1 c1,.slice a2 n2 c2,.bool t,.slice a3 n3 c3,.slice a4 n4 c4]) (t:=67) (by simp) 1 _ rfl
   clear hM0
   refine wpOp_step rfl fun K hK=>?_
   go_simp
   exact hK _ _ ⟨rfl,hM⟩
  ·cases ho9
   have r10:=hD.on 7 10 _ rfl (getD_true (hd9 ⟨7,.guard⟩ (by simp) rfl))
   have r1:=hD.old 1 _ rfl rfl
   refine wpOp_step rfl fun K hK=>?_
   go_simp
   exact hK _ _ ⟨rfl,hM⟩
  ·cases ho9
   have r10:=hD.on 7 10 _ rfl (getD_true (hd9 ⟨7,.guard⟩ (by simp) rfl))
   have r15:=hD.od hd9 12 15 _ rfl (by simp)
   refine wpOp_step rfl fun K hK=>?_
   go_simp
   exact hK _ _ ⟨rfl,hM⟩
  ·cases ho9
   have r10:=hD.on 7 10 _ rfl (getD_true (hd9 ⟨7,.guard⟩ (by simp) rfl))
   have r16:=hD.od hd9 13 16 _ rfl (by simp)
   refine wpOp_step rfl fun K hK=>?_
   go_simp
   exact hK _ _ ⟨rfl,hM⟩
  ·cases ho9
   have r10:=hD.on 7 10 _ rfl (getD_true (hd9 ⟨7,.guard⟩ (by simp) rfl))
   have r17:=hD.od hd9 14 17 _ rfl (by simp)
   have hM0:=hM
   have c9_0:=hM0.cellAt (b:=w.heap.size) (cs:=#[.bool s,.slice a1 n1 c1,.slice a2 n2 c2,.bool t,.slice a3 n3 c3,.slice a4 n4 c4]) (t:=67) (by simp) 4 _ rfl
   clear hM0
   refine wpOp_step rfl fun K hK=>?_
   go_simp
   exact hK _ _ ⟨rfl,hM⟩
  ·cases ho9
   have r10:=hD.on 7 10 _ rfl (getD_true (hd9 ⟨7,.chain⟩ (by simp) rfl))
   have r14:=hD.od hd9 11 14 _ rfl (by simp)
   have r18:=hD.od hd9 15 18 _ rfl (by simp)
   refine wpOp_step rfl fun K hK=>?_
   go_simp
   go_wp2_with fail
   refine (HN _ hM.fr).mono ?_
   rintro en w9 ⟨rfl,hb9⟩
   exact hK _ _ ⟨rfl,hM.kept hb9⟩
  ·cases ho9
   have r10:=hD.od hd9 7 10 _ rfl (by simp)
   have r19:=hD.od hd9 16 19 _ rfl (by simp)
   refine wpOp_step rfl fun K hK=>?_
   go_simp
   exact hK _ _ ⟨rfl,hM⟩
  ·cases ho9
   have r20:=hD.od hd9 17 20 _ rfl (by simp)
   refine wpOp_step rfl fun K hK=>?_
   go_simp
   exact hK _ _ ⟨rfl,hM⟩
  ·cases ho9
   have r21:=hD.on 18 21 _ rfl (getD_true (hd9 ⟨18,.guard⟩ (by simp) rfl))
   refine wpOp_step rfl fun K hK=>?_
   go_simp
   exact hK _ _ ⟨rfl,hM⟩
  ·cases ho9
   have r21:=hD.on 18 21 _ rfl (getD_true (hd9 ⟨18,.guard⟩ (by simp) rfl))
   refine wpOp_step rfl fun K hK=>?_
   go_simp
   exact hK _ _ ⟨rfl,hM⟩
  ·cases ho9
   have r21:=hD.on 18 21 _ rfl (getD_true (hd9 ⟨18,.guard⟩ (by simp) rfl))
   refine wpOp_step rfl fun K hK=>?_
   go_simp
   exact hK _ _ ⟨rfl,hM⟩
  ·cases ho9
   have r21:=hD.on 18 21 _ rfl (getD_true (hd9 ⟨18,.guard⟩ (by simp) rfl))
   refine wpOp_step rfl fun K hK=>?_
   go_simp
   exact hK _ _ ⟨rfl,hM⟩
  ·cases ho9
   have r21:=hD.on 18 21 _ rfl (getD_true (hd9 ⟨18,.guard⟩ (by simp) rfl))
   refine wpOp_step rfl fun K hK=>?_
   go_simp
   exact hK _ _ ⟨rfl,hM⟩
  ·cases ho9
   have r21:=hD.on 18 21 _ rfl (getD_true (hd9 ⟨18,.guard⟩ (by simp) rfl))
   refine wpOp_step rfl fun K hK=>?_
   go_simp
   exact hK _ _ ⟨rfl,hM⟩
  ·cases ho9
   have r21:=hD.on 18 21 _ rfl (getD_true (hd9 ⟨18,.guard⟩ (by simp) rfl))
   refine wpOp_step rfl fun K hK=>?_
   go_simp
   exact hK _ _ ⟨rfl,hM⟩
  ·cases ho9
   have r21:=hD.on 18 21 _ rfl (getD_true (hd9 ⟨18,.guard⟩ (by simp) rfl))
   refine wpOp_step rfl fun K hK=>?_
   go_simp
   exact hK _ _ ⟨rfl,hM⟩
  ·cases ho9
   have r21:=hD.on 18 21 _ rfl (getD_true (hd9 ⟨18,.chain⟩ (by simp) rfl))
   refine wpOp_step rfl fun K hK=>?_
   go_simp
   exact hK _ _ ⟨rfl,hM⟩
  ·cases ho9
   have r21:=hD.od hd9 18 21 _ rfl (by simp)
   have r30:=hD.od hd9 27 30 _ rfl (by simp)
   refine wpOp_step rfl fun K hK=>?_
   go_simp
   exact hK _ _ ⟨rfl,hM⟩
  ·cases ho9
   have r31:=hD.od hd9 28 31 _ rfl (by simp)
   refine wpOp_step rfl fun K hK=>?_
   go_simp
   exact hK _ _ ⟨rfl,hM⟩
 ·intro l9 W9 hl9 hM
  have hS:=hM
  clear hM
  simp only [Puts.lay,List.setIfInBounds_toArray,List.set_cons_zero,List.set_cons_succ]
  obtain ⟨⟨ya,yb,yc,yd,ye,yf,-⟩,-⟩:=hS.cells
  clear hEq
  go_wp2
  go_ret
  exact ⟨rfl,hS.fr⟩
theorem same_tt (s t:Bool) (a1 a2 a3 a4:Option Addr) (n1 n2 n3 n4 c1 c2 c3 c4:Nat) (he:(s == t && decide (n1 = n3) && decide (n2 = n4)) = true) (w:World) (HN:∀ W:World,Below w.heap.size w W→Calls Tryz.prog 61 #[.slice a1 n1 c1,.slice a3 n3 c3] W fun e w'=>e = .returned (.bool true)∧Below W.heap.size W w') (HD:∀ W:World,Below w.heap.size w W→Calls Tryz.prog 61 #[.slice a2 n2 c2,.slice a4 n4 c4] W fun e w'=>e = .returned (.bool true)∧Below W.heap.size W w') :
  Calls Tryz.prog 26 #[.agg #[.bool s,.slice a1 n1 c1,.slice a2 n2 c2,.bool t,.slice a3 n3 c3,.slice a4 n4 c4]] w fun e w'=>e = .returned (.bool true)∧Below w.heap.size w w':=by
 have hEq:=eq_shape s t n1 n2 n3 n4
 rw [he] at hEq
 clear he
 go_enter Tryz.func26,Tryz.ntmps26
 go_wp2_with fail
 refine wp_region_any (by kernel_rfl) ?_
 refine wpAny_det [some (3,.pointer (some ⟨w.heap.size,0,none⟩)),some (4,.agg #[.bool s,.slice a1 n1 c1,.slice a2 n2 c2]),some (5,.agg #[.bool s,.int .i64 (n1:Int),.int .i64 (n2:Int)]),some (6,.pointer (some ⟨w.heap.size,3,none⟩)),some (7,.agg #[.bool t,.slice a3 n3 c3,.slice a4 n4 c4]),some (8,.agg #[.bool t,.int .i64 (n3:Int),.int .i64 (n4:Int)]),some (9,.bool true),some (10,.bool true),some (11,.pointer (some ⟨w.heap.size,0,none⟩)),some (12,.pointer (some ⟨w.heap.size,1,none⟩)),some (13,.pointer (some ⟨w.heap.size,1,none⟩)),some (14,.slice a1 n1 c1),some (15,.pointer (some ⟨w.heap.size,3,none⟩)),some (16,.pointer (some ⟨w.heap.size,4,none⟩)),some (17,.pointer (some ⟨w.heap.size,4,none⟩)),some (18,.slice a3 n3 c3),some (19,.bool true),some (20,.bool true),some (21,.bool true),some (22,.pointer (some ⟨w.heap.size,0,none⟩)),some (23,.pointer (some ⟨w.heap.size,2,none⟩)),some (24,.pointer (some ⟨w.heap.size,2,none⟩)),some (25,.slice a2 n2 c2),some (26,.pointer (some ⟨w.heap.size,3,none⟩)),some (27,.pointer (some ⟨w.heap.size,5,none⟩)),some (28,.pointer (some ⟨w.heap.size,5,none⟩)),some (29,.slice a4 n4 c4),some (30,.bool true),some (31,.bool true),some (2,.bool true)]
  (fun _ W9=>Fs w W9 [⟨w.heap.size,#[.bool s,.slice a1 n1 c1,.slice a2 n2 c2,.bool t,.slice a3 n3 c3,.slice a4 n4 c4],67⟩]) _ _ rfl (by kernel_rfl) rfl rfl ?_ ?_ (Fs.one w _ _).drew
 ·intro l9 t9 W9 i9 hD hi9 hl9 hM
  obtain ⟨o9,ho9,hd9⟩:=(mem_ready.1 hi9).2
  have hin9:i9 < 30:=by
   by_cases h:i9 < 30
   ·exact h
   ·rw [Array.getElem?_eq_none (by rw [hD.len]; simp; omega)] at hl9; cases hl9
  have hcase:i9 = 0∨i9 = 1∨i9 = 2∨i9 = 3∨i9 = 4∨i9 = 5∨i9 = 6∨i9 = 7∨i9 = 8∨i9 = 9∨i9 = 10∨i9 = 11∨i9 = 12∨i9 = 13∨i9 = 14∨i9 = 15∨i9 = 16∨i9 = 17∨i9 = 18∨i9 = 19∨i9 = 20∨i9 = 21∨i9 = 22∨i9 = 23∨i9 = 24∨i9 = 25∨i9 = 26∨i9 = 27∨i9 = 28∨i9 = 29:=by omega
  clear hin9
  rcases hcase with rfl|rfl|rfl|rfl|rfl|rfl|rfl|rfl|rfl|rfl|rfl|rfl|rfl|rfl|rfl|rfl|rfl|rfl|rfl|rfl|rfl|rfl|rfl|rfl|rfl|rfl|rfl|rfl|rfl|rfl
  ·cases ho9
   have r1:=hD.old 1 _ rfl rfl
   refine wpOp_step rfl fun K hK=>?_
   go_simp
   exact hK _ _ ⟨rfl,hM⟩
  ·cases ho9
   have r3:=hD.od hd9 0 3 _ rfl (by simp)
   have hM0:=hM
   have Q_:=hM0.cellAt (b:=w.heap.size) (cs:=#[.bool s,.slice a1 n1 c1,.slice a2 n2 c2,.bool t,.slice a3 n3 c3,.slice a4 n4 c4]) (t:=67) (by simp)
   have c9_0:=Q_ 0 _ rfl
   have c9_1:=Q_ 1 _ rfl
   have c9_2:=Q_ 2 _ rfl
   clear Q_
   clear hM0
   refine wpOp_step rfl fun K hK=>?_
   go_simp
   exact hK _ _ ⟨rfl,hM⟩
  ·cases ho9
   have r4:=hD.od hd9 1 4 _ rfl (by simp)
   refine wpOp_step rfl fun K hK=>?_
   go_simp
   go_wp2_with fail
   refine (shapeOf_any _ _ _ _ _ _ _ _).mono ?_
   rintro en w9 ⟨rfl,hb9⟩
   exact hK _ _ ⟨rfl,hM.kept hb9⟩
  ·cases ho9
   have r1:=hD.old 1 _ rfl rfl
   refine wpOp_step rfl fun K hK=>?_
   go_simp
   exact hK _ _ ⟨rfl,hM⟩
  ·cases ho9
   have r6:=hD.od hd9 3 6 _ rfl (by simp)
   have hM0:=hM
   have Q_:=hM0.cellAt (b:=w.heap.size) (cs:=#[.bool s,.slice a1 n1 c1,.slice a2 n2 c2,.bool t,.slice a3 n3 c3,.slice a4 n4 c4]) (t:=67) (by simp)
   have c9_0:=Q_ 3 _ rfl
   have c9_1:=Q_ 4 _ rfl
   have c9_2:=Q_ 5 _ rfl
   clear Q_
   clear hM0
   refine wpOp_step rfl fun K hK=>?_
   go_simp
   exact hK _ _ ⟨rfl,hM⟩
  ·cases ho9
   have r7:=hD.od hd9 4 7 _ rfl (by simp)
   refine wpOp_step rfl fun K hK=>?_
   go_simp
   go_wp2_with fail
   refine (shapeOf_any _ _ _ _ _ _ _ _).mono ?_
   rintro en w9 ⟨rfl,hb9⟩
   exact hK _ _ ⟨rfl,hM.kept hb9⟩
  ·cases ho9
   have r5:=hD.od hd9 2 5 _ rfl (by simp)
   have r8:=hD.od hd9 5 8 _ rfl (by simp)
   refine wpOp_step rfl fun K hK=>?_
   go_simp
   exact hK _ _ ⟨act_eq (by rfl),hM⟩
  ·cases ho9
   have r9:=hD.od hd9 6 9 _ rfl (by simp)
   refine wpOp_step rfl fun K hK=>?_
   go_simp
   exact hK _ _ ⟨rfl,hM⟩
  ·cases ho9
   have r10:=hD.on 7 10 _ rfl (getD_true (hd9 ⟨7,.guard⟩ (by simp) rfl))
   have r1:=hD.old 1 _ rfl rfl
   refine wpOp_step rfl fun K hK=>?_
   go_simp
   exact hK _ _ ⟨rfl,hM⟩
  ·cases ho9
   have r10:=hD.on 7 10 _ rfl (getD_true (hd9 ⟨7,.guard⟩ (by simp) rfl))
   have r11:=hD.od hd9 8 11 _ rfl (by simp)
   refine wpOp_step rfl fun K hK=>?_
   go_simp
   exact hK _ _ ⟨rfl,hM⟩
  ·cases ho9
   have r10:=hD.on 7 10 _ rfl (getD_true (hd9 ⟨7,.guard⟩ (by simp) rfl))
   have r12:=hD.od hd9 9 12 _ rfl (by simp)
   refine wpOp_step rfl fun K hK=>?_
   go_simp
   exact hK _ _ ⟨rfl,hM⟩
  ·cases ho9
   have r10:=hD.on 7 10 _ rfl (getD_true (hd9 ⟨7,.guard⟩ (by simp) rfl))
   have r13:=hD.od hd9 10 13 _ rfl (by simp)
   have hM0:=hM
   have c9_0:=hM0.cellAt (b:=w.heap.size) (cs:=#[.bool s,.slice a1 n1 c1,.slice a2 n2 c2,.bool t,.slice a3 n3 c3,.slice a4 n4 c4]) (t:=67) (by simp) 1 _ rfl
   clear hM0
   refine wpOp_step rfl fun K hK=>?_
   go_simp
   exact hK _ _ ⟨rfl,hM⟩
  ·cases ho9
   have r10:=hD.on 7 10 _ rfl (getD_true (hd9 ⟨7,.guard⟩ (by simp) rfl))
   have r1:=hD.old 1 _ rfl rfl
   refine wpOp_step rfl fun K hK=>?_
   go_simp
   exact hK _ _ ⟨rfl,hM⟩
  ·cases ho9
   have r10:=hD.on 7 10 _ rfl (getD_true (hd9 ⟨7,.guard⟩ (by simp) rfl))
   have r15:=hD.od hd9 12 15 _ rfl (by simp)
   refine wpOp_step rfl fun K hK=>?_
   go_simp
   exact hK _ _ ⟨rfl,hM⟩
  ·cases ho9
   have r10:=hD.on 7 10 _ rfl (getD_true (hd9 ⟨7,.guard⟩ (by simp) rfl))
   have r16:=hD.od hd9 13 16 _ rfl (by simp)
   refine wpOp_step rfl fun K hK=>?_
   go_simp
   exact hK _ _ ⟨rfl,hM⟩
  ·cases ho9
   have r10:=hD.on 7 10 _ rfl (getD_true (hd9 ⟨7,.guard⟩ (by simp) rfl))
   have r17:=hD.od hd9 14 17 _ rfl (by simp)
   have hM0:=hM
   have c9_0:=hM0.cellAt (b:=w.heap.size) (cs:=#[.bool s,.slice a1 n1 c1,.slice a2 n2 c2,.bool t,.slice a3 n3 c3,.slice a4 n4 c4]) (t:=67) (by simp) 4 _ rfl
   clear hM0
   refine wpOp_step rfl fun K hK=>?_
   go_simp
   exact hK _ _ ⟨rfl,hM⟩
  ·cases ho9
   have r10:=hD.on 7 10 _ rfl (getD_true (hd9 ⟨7,.chain⟩ (by simp) rfl))
   have r14:=hD.od hd9 11 14 _ rfl (by simp)
   have r18:=hD.od hd9 15 18 _ rfl (by simp)
   refine wpOp_step rfl fun K hK=>?_
   go_simp
   go_wp2_with fail
   refine (HN _ hM.fr).mono ?_
   rintro en w9 ⟨rfl,hb9⟩
   exact hK _ _ ⟨rfl,hM.kept hb9⟩
  ·cases ho9
   have r10:=hD.od hd9 7 10 _ rfl (by simp)
   have r19:=hD.od hd9 16 19 _ rfl (by simp)
   refine wpOp_step rfl fun K hK=>?_
   go_simp
   exact hK _ _ ⟨rfl,hM⟩
  ·cases ho9
   have r20:=hD.od hd9 17 20 _ rfl (by simp)
   refine wpOp_step rfl fun K hK=>?_
   go_simp
   exact hK _ _ ⟨rfl,hM⟩
  ·cases ho9
   have r21:=hD.on 18 21 _ rfl (getD_true (hd9 ⟨18,.guard⟩ (by simp) rfl))
   have r1:=hD.old 1 _ rfl rfl
   refine wpOp_step rfl fun K hK=>?_
   go_simp
   exact hK _ _ ⟨rfl,hM⟩
  ·cases ho9
   have r21:=hD.on 18 21 _ rfl (getD_true (hd9 ⟨18,.guard⟩ (by simp) rfl))
   have r22:=hD.od hd9 19 22 _ rfl (by simp)
   refine wpOp_step rfl fun K hK=>?_
   go_simp
   exact hK _ _ ⟨rfl,hM⟩
  ·cases ho9
   have r21:=hD.on 18 21 _ rfl (getD_true (hd9 ⟨18,.guard⟩ (by simp) rfl))
   have r23:=hD.od hd9 20 23 _ rfl (by simp)
   refine wpOp_step rfl fun K hK=>?_
   go_simp
   exact hK _ _ ⟨rfl,hM⟩
  ·cases ho9
   have r21:=hD.on 18 21 _ rfl (getD_true (hd9 ⟨18,.guard⟩ (by simp) rfl))
   have r24:=hD.od hd9 21 24 _ rfl (by simp)
   have hM0:=hM
   have c9_0:=hM0.cellAt (b:=w.heap.size) (cs:=#[.bool s,.slice a1 n1 c1,.slice a2 n2 c2,.bool t,.slice a3 n3 c3,.slice a4 n4 c4]) (t:=67) (by simp) 2 _ rfl
   clear hM0
   refine wpOp_step rfl fun K hK=>?_
   go_simp
   exact hK _ _ ⟨rfl,hM⟩
  ·cases ho9
   have r21:=hD.on 18 21 _ rfl (getD_true (hd9 ⟨18,.guard⟩ (by simp) rfl))
   have r1:=hD.old 1 _ rfl rfl
   refine wpOp_step rfl fun K hK=>?_
   go_simp
   exact hK _ _ ⟨rfl,hM⟩
  ·cases ho9
   have r21:=hD.on 18 21 _ rfl (getD_true (hd9 ⟨18,.guard⟩ (by simp) rfl))
   have r26:=hD.od hd9 23 26 _ rfl (by simp)
   refine wpOp_step rfl fun K hK=>?_
   go_simp
   exact hK _ _ ⟨rfl,hM⟩
  ·cases ho9
   have r21:=hD.on 18 21 _ rfl (getD_true (hd9 ⟨18,.guard⟩ (by simp) rfl))
   have r27:=hD.od hd9 24 27 _ rfl (by simp)
   refine wpOp_step rfl fun K hK=>?_
   go_simp
   exact hK _ _ ⟨rfl,hM⟩
  ·cases ho9
   have r21:=hD.on 18 21 _ rfl (getD_true (hd9 ⟨18,.guard⟩ (by simp) rfl))
   have r28:=hD.od hd9 25 28 _ rfl (by simp)
   have hM0:=hM
   have c9_0:=hM0.cellAt (b:=w.heap.size) (cs:=#[.bool s,.slice a1 n1 c1,.slice a2 n2 c2,.bool t,.slice a3 n3 c3,.slice a4 n4 c4]) (t:=67) (by simp) 5 _ rfl
   clear hM0
   refine wpOp_step rfl fun K hK=>?_
   go_simp
   exact hK _ _ ⟨rfl,hM⟩
  ·cases ho9
   have r21:=hD.on 18 21 _ rfl (getD_true (hd9 ⟨18,.chain⟩ (by simp) rfl))
   have r25:=hD.od hd9 22 25 _ rfl (by simp)
   have r29:=hD.od hd9 26 29 _ rfl (by simp)
   refine wpOp_step rfl fun K hK=>?_
   go_simp
   go_wp2_with fail
   refine (HD _ hM.fr).mono ?_
   rintro en w9 ⟨rfl,hb9⟩
   exact hK _ _ ⟨rfl,hM.kept hb9⟩
  ·cases ho9
   have r21:=hD.od hd9 18 21 _ rfl (by simp)
   have r30:=hD.od hd9 27 30 _ rfl (by simp)
   refine wpOp_step rfl fun K hK=>?_
   go_simp
   exact hK _ _ ⟨rfl,hM⟩
  ·cases ho9
   have r31:=hD.od hd9 28 31 _ rfl (by simp)
   refine wpOp_step rfl fun K hK=>?_
   go_simp
   exact hK _ _ ⟨rfl,hM⟩
 ·intro l9 W9 hl9 hM
  have hS:=hM
  clear hM
  simp only [Puts.lay,List.setIfInBounds_toArray,List.set_cons_zero,List.set_cons_succ]
  obtain ⟨⟨ya,yb,yc,yd,ye,yf,-⟩,-⟩:=hS.cells
  clear hEq
  go_wp2
  go_ret
  exact ⟨rfl,hS.fr⟩
theorem same_tf (s t:Bool) (a1 a2 a3 a4:Option Addr) (n1 n2 n3 n4 c1 c2 c3 c4:Nat) (he:(s == t && decide (n1 = n3) && decide (n2 = n4)) = true) (w:World) (HN:∀ W:World,Below w.heap.size w W→Calls Tryz.prog 61 #[.slice a1 n1 c1,.slice a3 n3 c3] W fun e w'=>e = .returned (.bool true)∧Below W.heap.size W w') (HD:∀ W:World,Below w.heap.size w W→Calls Tryz.prog 61 #[.slice a2 n2 c2,.slice a4 n4 c4] W fun e w'=>e = .returned (.bool false)∧Below W.heap.size W w') :
  Calls Tryz.prog 26 #[.agg #[.bool s,.slice a1 n1 c1,.slice a2 n2 c2,.bool t,.slice a3 n3 c3,.slice a4 n4 c4]] w fun e w'=>e = .returned (.bool false)∧Below w.heap.size w w':=by
 have hEq:=eq_shape s t n1 n2 n3 n4
 rw [he] at hEq
 clear he
 go_enter Tryz.func26,Tryz.ntmps26
 go_wp2_with fail
 refine wp_region_any (by kernel_rfl) ?_
 refine wpAny_det [some (3,.pointer (some ⟨w.heap.size,0,none⟩)),some (4,.agg #[.bool s,.slice a1 n1 c1,.slice a2 n2 c2]),some (5,.agg #[.bool s,.int .i64 (n1:Int),.int .i64 (n2:Int)]),some (6,.pointer (some ⟨w.heap.size,3,none⟩)),some (7,.agg #[.bool t,.slice a3 n3 c3,.slice a4 n4 c4]),some (8,.agg #[.bool t,.int .i64 (n3:Int),.int .i64 (n4:Int)]),some (9,.bool true),some (10,.bool true),some (11,.pointer (some ⟨w.heap.size,0,none⟩)),some (12,.pointer (some ⟨w.heap.size,1,none⟩)),some (13,.pointer (some ⟨w.heap.size,1,none⟩)),some (14,.slice a1 n1 c1),some (15,.pointer (some ⟨w.heap.size,3,none⟩)),some (16,.pointer (some ⟨w.heap.size,4,none⟩)),some (17,.pointer (some ⟨w.heap.size,4,none⟩)),some (18,.slice a3 n3 c3),some (19,.bool true),some (20,.bool true),some (21,.bool true),some (22,.pointer (some ⟨w.heap.size,0,none⟩)),some (23,.pointer (some ⟨w.heap.size,2,none⟩)),some (24,.pointer (some ⟨w.heap.size,2,none⟩)),some (25,.slice a2 n2 c2),some (26,.pointer (some ⟨w.heap.size,3,none⟩)),some (27,.pointer (some ⟨w.heap.size,5,none⟩)),some (28,.pointer (some ⟨w.heap.size,5,none⟩)),some (29,.slice a4 n4 c4),some (30,.bool false),some (31,.bool false),some (2,.bool false)]
  (fun _ W9=>Fs w W9 [⟨w.heap.size,#[.bool s,.slice a1 n1 c1,.slice a2 n2 c2,.bool t,.slice a3 n3 c3,.slice a4 n4 c4],67⟩]) _ _ rfl (by kernel_rfl) rfl rfl ?_ ?_ (Fs.one w _ _).drew
 ·intro l9 t9 W9 i9 hD hi9 hl9 hM
  obtain ⟨o9,ho9,hd9⟩:=(mem_ready.1 hi9).2
  have hin9:i9 < 30:=by
   by_cases h:i9 < 30
   ·exact h
   ·rw [Array.getElem?_eq_none (by rw [hD.len]; simp; omega)] at hl9; cases hl9
  have hcase:i9 = 0∨i9 = 1∨i9 = 2∨i9 = 3∨i9 = 4∨i9 = 5∨i9 = 6∨i9 = 7∨i9 = 8∨i9 = 9∨i9 = 10∨i9 = 11∨i9 = 12∨i9 = 13∨i9 = 14∨i9 = 15∨i9 = 16∨i9 = 17∨i9 = 18∨i9 = 19∨i9 = 20∨i9 = 21∨i9 = 22∨i9 = 23∨i9 = 24∨i9 = 25∨i9 = 26∨i9 = 27∨i9 = 28∨i9 = 29:=by omega
  clear hin9
  rcases hcase with rfl|rfl|rfl|rfl|rfl|rfl|rfl|rfl|rfl|rfl|rfl|rfl|rfl|rfl|rfl|rfl|rfl|rfl|rfl|rfl|rfl|rfl|rfl|rfl|rfl|rfl|rfl|rfl|rfl|rfl
  ·cases ho9
   have r1:=hD.old 1 _ rfl rfl
   refine wpOp_step rfl fun K hK=>?_
   go_simp
   exact hK _ _ ⟨rfl,hM⟩
  ·cases ho9
   have r3:=hD.od hd9 0 3 _ rfl (by simp)
   have hM0:=hM
   have Q_:=hM0.cellAt (b:=w.heap.size) (cs:=#[.bool s,.slice a1 n1 c1,.slice a2 n2 c2,.bool t,.slice a3 n3 c3,.slice a4 n4 c4]) (t:=67) (by simp)
   have c9_0:=Q_ 0 _ rfl
   have c9_1:=Q_ 1 _ rfl
   have c9_2:=Q_ 2 _ rfl
   clear Q_
   clear hM0
   refine wpOp_step rfl fun K hK=>?_
   go_simp
   exact hK _ _ ⟨rfl,hM⟩
  ·cases ho9
   have r4:=hD.od hd9 1 4 _ rfl (by simp)
   refine wpOp_step rfl fun K hK=>?_
   go_simp
   go_wp2_with fail
   refine (shapeOf_any _ _ _ _ _ _ _ _).mono ?_
   rintro en w9 ⟨rfl,hb9⟩
   exact hK _ _ ⟨rfl,hM.kept hb9⟩
  ·cases ho9
   have r1:=hD.old 1 _ rfl rfl
   refine wpOp_step rfl fun K hK=>?_
   go_simp
   exact hK _ _ ⟨rfl,hM⟩
  ·cases ho9
   have r6:=hD.od hd9 3 6 _ rfl (by simp)
   have hM0:=hM
   have Q_:=hM0.cellAt (b:=w.heap.size) (cs:=#[.bool s,.slice a1 n1 c1,.slice a2 n2 c2,.bool t,.slice a3 n3 c3,.slice a4 n4 c4]) (t:=67) (by simp)
   have c9_0:=Q_ 3 _ rfl
   have c9_1:=Q_ 4 _ rfl
   have c9_2:=Q_ 5 _ rfl
   clear Q_
   clear hM0
   refine wpOp_step rfl fun K hK=>?_
   go_simp
   exact hK _ _ ⟨rfl,hM⟩
  ·cases ho9
   have r7:=hD.od hd9 4 7 _ rfl (by simp)
   refine wpOp_step rfl fun K hK=>?_
   go_simp
   go_wp2_with fail
   refine (shapeOf_any _ _ _ _ _ _ _ _).mono ?_
   rintro en w9 ⟨rfl,hb9⟩
   exact hK _ _ ⟨rfl,hM.kept hb9⟩
  ·cases ho9
   have r5:=hD.od hd9 2 5 _ rfl (by simp)
   have r8:=hD.od hd9 5 8 _ rfl (by simp)
   refine wpOp_step rfl fun K hK=>?_
   go_simp
   exact hK _ _ ⟨act_eq (by rfl),hM⟩
  ·cases ho9
   have r9:=hD.od hd9 6 9 _ rfl (by simp)
   refine wpOp_step rfl fun K hK=>?_
   go_simp
   exact hK _ _ ⟨rfl,hM⟩
  ·cases ho9
   have r10:=hD.on 7 10 _ rfl (getD_true (hd9 ⟨7,.guard⟩ (by simp) rfl))
   have r1:=hD.old 1 _ rfl rfl
   refine wpOp_step rfl fun K hK=>?_
   go_simp
   exact hK _ _ ⟨rfl,hM⟩
  ·cases ho9
   have r10:=hD.on 7 10 _ rfl (getD_true (hd9 ⟨7,.guard⟩ (by simp) rfl))
   have r11:=hD.od hd9 8 11 _ rfl (by simp)
   refine wpOp_step rfl fun K hK=>?_
   go_simp
   exact hK _ _ ⟨rfl,hM⟩
  ·cases ho9
   have r10:=hD.on 7 10 _ rfl (getD_true (hd9 ⟨7,.guard⟩ (by simp) rfl))
   have r12:=hD.od hd9 9 12 _ rfl (by simp)
   refine wpOp_step rfl fun K hK=>?_
   go_simp
   exact hK _ _ ⟨rfl,hM⟩
  ·cases ho9
   have r10:=hD.on 7 10 _ rfl (getD_true (hd9 ⟨7,.guard⟩ (by simp) rfl))
   have r13:=hD.od hd9 10 13 _ rfl (by simp)
   have hM0:=hM
   have c9_0:=hM0.cellAt (b:=w.heap.size) (cs:=#[.bool s,.slice a1 n1 c1,.slice a2 n2 c2,.bool t,.slice a3 n3 c3,.slice a4 n4 c4]) (t:=67) (by simp) 1 _ rfl
   clear hM0
   refine wpOp_step rfl fun K hK=>?_
   go_simp
   exact hK _ _ ⟨rfl,hM⟩
  ·cases ho9
   have r10:=hD.on 7 10 _ rfl (getD_true (hd9 ⟨7,.guard⟩ (by simp) rfl))
   have r1:=hD.old 1 _ rfl rfl
   refine wpOp_step rfl fun K hK=>?_
   go_simp
   exact hK _ _ ⟨rfl,hM⟩
  ·cases ho9
   have r10:=hD.on 7 10 _ rfl (getD_true (hd9 ⟨7,.guard⟩ (by simp) rfl))
   have r15:=hD.od hd9 12 15 _ rfl (by simp)
   refine wpOp_step rfl fun K hK=>?_
   go_simp
   exact hK _ _ ⟨rfl,hM⟩
  ·cases ho9
   have r10:=hD.on 7 10 _ rfl (getD_true (hd9 ⟨7,.guard⟩ (by simp) rfl))
   have r16:=hD.od hd9 13 16 _ rfl (by simp)
   refine wpOp_step rfl fun K hK=>?_
   go_simp
   exact hK _ _ ⟨rfl,hM⟩
  ·cases ho9
   have r10:=hD.on 7 10 _ rfl (getD_true (hd9 ⟨7,.guard⟩ (by simp) rfl))
   have r17:=hD.od hd9 14 17 _ rfl (by simp)
   have hM0:=hM
   have c9_0:=hM0.cellAt (b:=w.heap.size) (cs:=#[.bool s,.slice a1 n1 c1,.slice a2 n2 c2,.bool t,.slice a3 n3 c3,.slice a4 n4 c4]) (t:=67) (by simp) 4 _ rfl
   clear hM0
   refine wpOp_step rfl fun K hK=>?_
   go_simp
   exact hK _ _ ⟨rfl,hM⟩
  ·cases ho9
   have r10:=hD.on 7 10 _ rfl (getD_true (hd9 ⟨7,.chain⟩ (by simp) rfl))
   have r14:=hD.od hd9 11 14 _ rfl (by simp)
   have r18:=hD.od hd9 15 18 _ rfl (by simp)
   refine wpOp_step rfl fun K hK=>?_
   go_simp
   go_wp2_with fail
   refine (HN _ hM.fr).mono ?_
   rintro en w9 ⟨rfl,hb9⟩
   exact hK _ _ ⟨rfl,hM.kept hb9⟩
  ·cases ho9
   have r10:=hD.od hd9 7 10 _ rfl (by simp)
   have r19:=hD.od hd9 16 19 _ rfl (by simp)
   refine wpOp_step rfl fun K hK=>?_
   go_simp
   exact hK _ _ ⟨rfl,hM⟩
  ·cases ho9
   have r20:=hD.od hd9 17 20 _ rfl (by simp)
   refine wpOp_step rfl fun K hK=>?_
   go_simp
   exact hK _ _ ⟨rfl,hM⟩
  ·cases ho9
   have r21:=hD.on 18 21 _ rfl (getD_true (hd9 ⟨18,.guard⟩ (by simp) rfl))
   have r1:=hD.old 1 _ rfl rfl
   refine wpOp_step rfl fun K hK=>?_
   go_simp
   exact hK _ _ ⟨rfl,hM⟩
  ·cases ho9
   have r21:=hD.on 18 21 _ rfl (getD_true (hd9 ⟨18,.guard⟩ (by simp) rfl))
   have r22:=hD.od hd9 19 22 _ rfl (by simp)
   refine wpOp_step rfl fun K hK=>?_
   go_simp
   exact hK _ _ ⟨rfl,hM⟩
  ·cases ho9
   have r21:=hD.on 18 21 _ rfl (getD_true (hd9 ⟨18,.guard⟩ (by simp) rfl))
   have r23:=hD.od hd9 20 23 _ rfl (by simp)
   refine wpOp_step rfl fun K hK=>?_
   go_simp
   exact hK _ _ ⟨rfl,hM⟩
  ·cases ho9
   have r21:=hD.on 18 21 _ rfl (getD_true (hd9 ⟨18,.guard⟩ (by simp) rfl))
   have r24:=hD.od hd9 21 24 _ rfl (by simp)
   have hM0:=hM
   have c9_0:=hM0.cellAt (b:=w.heap.size) (cs:=#[.bool s,.slice a1 n1 c1,.slice a2 n2 c2,.bool t,.slice a3 n3 c3,.slice a4 n4 c4]) (t:=67) (by simp) 2 _ rfl
   clear hM0
   refine wpOp_step rfl fun K hK=>?_
   go_simp
   exact hK _ _ ⟨rfl,hM⟩
  ·cases ho9
   have r21:=hD.on 18 21 _ rfl (getD_true (hd9 ⟨18,.guard⟩ (by simp) rfl))
   have r1:=hD.old 1 _ rfl rfl
   refine wpOp_step rfl fun K hK=>?_
   go_simp
   exact hK _ _ ⟨rfl,hM⟩
  ·cases ho9
   have r21:=hD.on 18 21 _ rfl (getD_true (hd9 ⟨18,.guard⟩ (by simp) rfl))
   have r26:=hD.od hd9 23 26 _ rfl (by simp)
   refine wpOp_step rfl fun K hK=>?_
   go_simp
   exact hK _ _ ⟨rfl,hM⟩
  ·cases ho9
   have r21:=hD.on 18 21 _ rfl (getD_true (hd9 ⟨18,.guard⟩ (by simp) rfl))
   have r27:=hD.od hd9 24 27 _ rfl (by simp)
   refine wpOp_step rfl fun K hK=>?_
   go_simp
   exact hK _ _ ⟨rfl,hM⟩
  ·cases ho9
   have r21:=hD.on 18 21 _ rfl (getD_true (hd9 ⟨18,.guard⟩ (by simp) rfl))
   have r28:=hD.od hd9 25 28 _ rfl (by simp)
   have hM0:=hM
   have c9_0:=hM0.cellAt (b:=w.heap.size) (cs:=#[.bool s,.slice a1 n1 c1,.slice a2 n2 c2,.bool t,.slice a3 n3 c3,.slice a4 n4 c4]) (t:=67) (by simp) 5 _ rfl
   clear hM0
   refine wpOp_step rfl fun K hK=>?_
   go_simp
   exact hK _ _ ⟨rfl,hM⟩
  ·cases ho9
   have r21:=hD.on 18 21 _ rfl (getD_true (hd9 ⟨18,.chain⟩ (by simp) rfl))
   have r25:=hD.od hd9 22 25 _ rfl (by simp)
   have r29:=hD.od hd9 26 29 _ rfl (by simp)
   refine wpOp_step rfl fun K hK=>?_
   go_simp
   go_wp2_with fail
   refine (HD _ hM.fr).mono ?_
   rintro en w9 ⟨rfl,hb9⟩
   exact hK _ _ ⟨rfl,hM.kept hb9⟩
  ·cases ho9
   have r21:=hD.od hd9 18 21 _ rfl (by simp)
   have r30:=hD.od hd9 27 30 _ rfl (by simp)
   refine wpOp_step rfl fun K hK=>?_
   go_simp
   exact hK _ _ ⟨rfl,hM⟩
  ·cases ho9
   have r31:=hD.od hd9 28 31 _ rfl (by simp)
   refine wpOp_step rfl fun K hK=>?_
   go_simp
   exact hK _ _ ⟨rfl,hM⟩
 ·intro l9 W9 hl9 hM
  have hS:=hM
  clear hM
  simp only [Puts.lay,List.setIfInBounds_toArray,List.set_cons_zero,List.set_cons_succ]
  obtain ⟨⟨ya,yb,yc,yd,ye,yf,-⟩,-⟩:=hS.cells
  clear hEq
  go_wp2
  go_ret
  exact ⟨rfl,hS.fr⟩
def ordR (x y:Rat):Int:=if x = y then 0 else if x < y then -1 else 1
theorem ordR_eq {x y:Rat} (h:x = y):ordR x y = 0:=by unfold ordR; rw [if_pos h]
theorem ordR_lt {x y:Rat} (h:x.num * y.den < y.num * x.den):ordR x y = -1:=by
 unfold ordR
 have hl:x < y:=(Rat.lt_iff x y).2 h
 rw [if_neg (fun e=>by subst e; omega),if_pos hl]
theorem ordR_gt {x y:Rat} (h:y.num * x.den < x.num * y.den):ordR x y = 1:=by
 unfold ordR
 have hl:¬ x < y:=fun h1=>by have:=(Rat.lt_iff x y).1 h1; omega
 rw [if_neg (fun e=>by subst e; omega),if_neg hl]
theorem rat_ne {x y:Rat} (h:x≠y):x.num * y.den≠y.num * x.den:=fun e=>
 h (by
  have h1:¬ x < y:=fun hl=>by have:=(Rat.lt_iff x y).1 hl; omega
  have h2:¬ y < x:=fun hl=>by have:=(Rat.lt_iff y x).1 hl; omega
  exact Rat.le_antisymm (Rat.not_lt.1 h2) (Rat.not_lt.1 h1))
theorem both_same (s t:Bool) (a1 a2 a3 a4:Option Addr) (n1 n2 n3 n4 c1 c2 c3 c4:Nat) (x y:Rat) (w:World) (hx:Fq w s a1 n1 a2 n2 x) (hy:Fq w t a3 n3 a4 n4 y) :
  Calls Tryz.prog 26 #[.agg #[.bool s,.slice a1 n1 c1,.slice a2 n2 c2,.bool t,.slice a3 n3 c3,.slice a4 n4 c4]] w fun e w'=>e = .returned (.bool (decide (x = y)))∧Below w.heap.size w w':=by
 rw [same_dec hx hy]
 cases he:(s == t && decide (n1 = n3) && decide (n2 = n4))
 ·have hd:((s == t) && decide (x.num.natAbs = y.num.natAbs) && decide (x.den = y.den)) = false:=by
   cases hst:(s == t)
   ·rfl
   ·rw [hst] at he
    by_cases e1:x.num.natAbs = y.num.natAbs
    ·have:=hx.num.same (e1▸hy.num)
     by_cases e2:x.den = y.den
     ·have h2:=hx.den.same (e2▸hy.den)
      rw [decide_eq_true this,decide_eq_true h2] at he
      exact absurd he (by decide)
     ·rw [decide_eq_false e2,Bool.and_false]
    ·rw [decide_eq_false e1]; rfl
  rw [hd]
  exact same_shape s t a1 a2 a3 a4 n1 n2 n3 n4 c1 c2 c3 c4 he w
 ·have he':=he
  simp only [Bool.and_eq_true,decide_eq_true_eq] at he
  obtain ⟨⟨hst,e1⟩,e2⟩:=he
  rw [hst,Bool.true_and]
  subst e1 e2
  have H1:∀ W:World,Below w.heap.size w W→Calls Tryz.prog 61 #[.slice a1 n1 c1,.slice a3 n1 c3] W fun e w'=>e = .returned (.bool (decide (x.num.natAbs = y.num.natAbs)))∧Below W.heap.size W w':=
   fun W hb=>eqS_any a1 a3 n1 c1 c3 _ _ W (hx.num.kept hb) (hy.num.kept hb)
  have H2:∀ W:World,Below w.heap.size w W→Calls Tryz.prog 61 #[.slice a2 n2 c2,.slice a4 n2 c4] W fun e w'=>e = .returned (.bool (decide (x.den = y.den)))∧Below W.heap.size W w':=
   fun W hb=>eqS_any a2 a4 n2 c2 c4 _ _ W (hx.den.kept hb) (hy.den.kept hb)
  cases hd1:decide (x.num.natAbs = y.num.natAbs)
  ·rw [hd1] at H1
   exact same_f s t a1 a2 a3 a4 n1 n2 n1 n2 c1 c2 c3 c4 he' w H1
  ·rw [hd1] at H1
   rw [Bool.true_and]
   cases hd2:decide (x.den = y.den)
   ·rw [hd2] at H2
    exact same_tf s t a1 a2 a3 a4 n1 n2 n1 n2 c1 c2 c3 c4 he' w H1 H2
   ·rw [hd2] at H2
    exact same_tt s t a1 a2 a3 a4 n1 n2 n1 n2 c1 c2 c3 c4 he' w H1 H2
theorem cmpI_pos {m k:Nat}:decide ((0:Int) < cmpI m k) = decide (k < m):=by
 unfold cmpI
 rw [decide_eq_decide]
 by_cases h:m < k
 ·rw [if_pos h]; omega
 ·rw [if_neg h]
  by_cases h2:m = k
  ·rw [if_pos h2]; omega
  ·rw [if_neg h2]; omega
theorem both_farther (s t:Bool) (a1 a2 a3 a4:Option Addr) (n1 n2 n3 n4 c1 c2 c3 c4:Nat) (x y:Rat) (w:World) (hx:Fq w s a1 n1 a2 n2 x) (hy:Fq w t a3 n3 a4 n4 y) (ho:¬ Over (x.num.natAbs * y.den)) (ho2:¬ Over (y.num.natAbs * x.den)) :
  Calls Tryz.prog 28 #[.agg #[.bool s,.slice a1 n1 c1,.slice a2 n2 c2,.bool t,.slice a3 n3 c3,.slice a4 n4 c4]] w fun e w'=>e = .returned (.bool (decide (y.num.natAbs * x.den < x.num.natAbs * y.den)))∧Below w.heap.size w w':=by
 cases hd:decide (y.num.natAbs * x.den < x.num.natAbs * y.den)
 ·exact farther_f s t a1 a2 a3 a4 n1 n2 n3 n4 c1 c2 c3 c4 _ _ _ _ ho ho2 (cmpI_pos.trans hd) w hx.num hx.den hy.num hy.den
 ·exact farther_t s t a1 a2 a3 a4 n1 n2 n3 n4 c1 c2 c3 c4 _ _ _ _ ho ho2 (cmpI_pos.trans hd) w hx.num hx.den hy.num hy.den
theorem abs_of {s:Bool} {x:Rat} (h:s = decide (x.num < 0)):x.num = Rm.sgn s x.num.natAbs:=by
 subst h
 unfold Rm.sgn
 by_cases h:x.num < 0
 ·rw [decide_eq_true h,if_pos rfl]; omega
 ·rw [decide_eq_false h,if_neg (by decide)]; omega
theorem cmp_rat (s t:Bool) (a1 a2 a3 a4:Option Addr) (n1 n2 n3 n4 c1 c2 c3 c4:Nat) (x y:Rat) (w:World) (hx:Fq w s a1 n1 a2 n2 x) (hy:Fq w t a3 n3 a4 n4 y) (ho:¬ Over (x.num.natAbs * y.den)) (ho2:¬ Over (y.num.natAbs * x.den)) :
  Calls Tryz.prog 11 #[.agg #[.bool s,.slice a1 n1 c1,.slice a2 n2 c2],.agg #[.bool t,.slice a3 n3 c3,.slice a4 n4 c4]] w fun e w'=>e = .returned (.tuple #[.int .i64 (ordR x y),.int .i64 0])∧Below w.heap.size w w':=by
 have gs:∀ {s:Bool} {z:Rat},Rm.Q z s z.num.natAbs z.den→s = true→0 < z.num.natAbs:=fun {s z} q e=>Nat.pos_of_ne_zero fun e2=>by have:=q.zero e2; rw [this] at e; cases e
 have HC:=hide (fun (W:World) (hb:Below w.heap.size w W)=>zbck W a1 a2 a3 a4 n1 n2 n3 n4 c1 c2 c3 c4 _ _ _ _ s t (hx.num.kept hb) (hx.den.kept hb) (hy.num.kept hb) (hy.den.kept hb) (hide fun W q r=>rchk_all s a1 a2 n1 c1 n2 c2 _ _ (gs hx.q) hx.q.pos hx.q.co W q r) (hide fun W q r=>rchk_all t a3 a4 n3 c3 n4 c4 _ _ (gs hy.q) hy.q.pos hy.q.co W q r))
 have HS:∀ W:World,Below w.heap.size w W→Calls Tryz.prog 26 #[.agg #[.bool s,.slice a1 n1 c1,.slice a2 n2 c2,.bool t,.slice a3 n3 c3,.slice a4 n4 c4]] W fun e w'=>e = .returned (.bool (decide (x = y)))∧Below W.heap.size W w':=
  fun W hb=>both_same s t a1 a2 a3 a4 n1 n2 n3 n4 c1 c2 c3 c4 x y W (hx.kept hb) (hy.kept hb)
 have HF:∀ W:World,Below w.heap.size w W→Calls Tryz.prog 28 #[.agg #[.bool s,.slice a1 n1 c1,.slice a2 n2 c2,.bool t,.slice a3 n3 c3,.slice a4 n4 c4]] W fun e w'=>e = .returned (.bool (decide (y.num.natAbs * x.den < x.num.natAbs * y.den)))∧Below W.heap.size W w':=
  fun W hb=>both_farther s t a1 a2 a3 a4 n1 n2 n3 n4 c1 c2 c3 c4 x y W (hx.kept hb) (hy.kept hb) ho ho2
 by_cases hxy:x = y
 ·rw [decide_eq_true hxy] at HS
  rw [ordR_eq hxy]
  exact rcmp_same s t a1 a2 a3 a4 n1 n2 n3 n4 c1 c2 c3 c4 w HC (hide HS)
 ·rw [decide_eq_false hxy] at HS
  have hne:=rat_ne hxy
  have ex:=abs_of hx.neg
  have ey:=abs_of hy.neg
  have hz:=hx.q.zero
  have hz':=hy.q.zero
  have px:0 < x.den:=Nat.pos_of_ne_zero x.den_nz
  have py:0 < y.den:=Nat.pos_of_ne_zero y.den_nz
  have hxm:x.num * (y.den:Int) = Rm.sgn s (x.num.natAbs * y.den):=by rw [Rm.sgn_scale,← ex]
  have hym:y.num * (x.den:Int) = Rm.sgn t (y.num.natAbs * x.den):=by rw [Rm.sgn_scale,← ey]
  have gx:s = true→0 < x.num.natAbs * y.den:=fun h=>Nat.mul_pos (Nat.pos_of_ne_zero (fun e=>by rw [hz e] at h; exact absurd h (by decide))) py
  have gy:t = true→0 < y.num.natAbs * x.den:=fun h=>Nat.mul_pos (Nat.pos_of_ne_zero (fun e=>by rw [hz' e] at h; exact absurd h (by decide))) px
  generalize hU:x.num.natAbs * y.den = U at hxm gx HF
  generalize hV:y.num.natAbs * x.den = V at hym gy HF
  rw [hxm,hym] at hne
  cases s <;> cases t
  ·by_cases hd:V < U
   ·rw [decide_eq_true hd] at HF
    rw [ordR_gt (by rw [hxm,hym]; simp only [Rm.sgn]; simp; omega)]
    exact rcmp_fft a1 a2 a3 a4 n1 n2 n3 n4 c1 c2 c3 c4 w HC (hide HS) (hide HF)
   ·rw [decide_eq_false hd] at HF
    rw [ordR_lt (by rw [hxm,hym]; simp only [Rm.sgn] at hne ⊢; simp at hne ⊢; omega)]
    exact rcmp_fff a1 a2 a3 a4 n1 n2 n3 n4 c1 c2 c3 c4 w HC (hide HS) (hide HF)
  ·have:=gy rfl
   rw [ordR_gt (by rw [hxm,hym]; simp only [Rm.sgn]; simp; omega)]
   exact rcmp_ft a1 a2 a3 a4 n1 n2 n3 n4 c1 c2 c3 c4 w HC (hide HS)
  ·have:=gx rfl
   rw [ordR_lt (by rw [hxm,hym]; simp only [Rm.sgn]; simp; omega)]
   exact rcmp_tf a1 a2 a3 a4 n1 n2 n3 n4 c1 c2 c3 c4 w HC (hide HS)
  ·by_cases hd:V < U
   ·rw [decide_eq_true hd] at HF
    rw [ordR_lt (by rw [hxm,hym]; simp only [Rm.sgn]; simp; omega)]
    exact rcmp_ttt a1 a2 a3 a4 n1 n2 n3 n4 c1 c2 c3 c4 w HC (hide HS) (hide HF)
   ·rw [decide_eq_false hd] at HF
    rw [ordR_gt (by rw [hxm,hym]; simp only [Rm.sgn] at hne ⊢; simp at hne ⊢; omega)]
    exact rcmp_ttf a1 a2 a3 a4 n1 n2 n3 n4 c1 c2 c3 c4 w HC (hide HS) (hide HF)
def rq (s:Bool) (p d:Nat) (hd:0 < d) (hg:Nat.gcd p d = 1):Rat:=⟨Rm.sgn s p,d,by omega,by rw [Nat.Coprime,Rm.sgn_abs]; exact hg⟩
theorem fq_rq {w:World} {s:Bool} {a b:Option Addr} {n k p d:Nat} {hd:0 < d} {hg:Nat.gcd p d = 1} (hs:s = true→0 < p) (h1:Num w a n p) (h2:Num w b k d):Fq w s a n b k (rq s p d hd hg):=by
 refine ⟨(Rm.sgn_neg fun e=>?_).symm,?_,h2⟩
 ·cases s
  ·rfl
  ·have:=hs rfl; omega
 ·show Num w a n (Rm.sgn s p).natAbs
  rw [Rm.sgn_abs]; exact h1
theorem half_key {x a b L R gl gr d da db dl dr U pa pb q:Int} (hA:a * U = pa * da) (hB:b * U = pb * db) (hX:x * U = q)
  (I1:(x * da - a * d) * dl = gl * (d * da)) (I2:(b * d - x * db) * dr = gr * (db * d)) (hL:L = gl * dr) (hR:R = gr * dl) :
  (R - L) * (d * da * db * U) = ((pa+pb) * d - 2 * q) * (da * db * dl * dr):=by
 subst hL hR hX
 grind
theorem WrQ.lt {F G r:Nat} {s sa:Bool} {va da p d:Nat} (h:WrQ F G s r sa va da) (hl:pv F r * d < p * 2 ^ G):va * d < p * da:=by
 refine Nat.lt_of_mul_lt_mul_right (a:=2 ^ G) ?_
 have a1:va * d * 2 ^ G = pv F r * d * da:=by rw [Nat.mul_right_comm,h.eq]; ac_rfl
 have a2:p * da * 2 ^ G = p * 2 ^ G * da:=Nat.mul_right_comm ..
 rw [a1,a2]
 exact Nat.mul_lt_mul_of_pos_right hl h.hd
theorem WrQ.gt {F G r:Nat} {s sa:Bool} {va da p d:Nat} (h:WrQ F G s r sa va da) (hl:p * 2 ^ G < pv F r * d):p * da < va * d:=by
 refine Nat.lt_of_mul_lt_mul_right (a:=2 ^ G) ?_
 have a1:va * d * 2 ^ G = pv F r * d * da:=by rw [Nat.mul_right_comm,h.eq]; ac_rfl
 have a2:p * da * 2 ^ G = p * 2 ^ G * da:=Nat.mul_right_comm ..
 rw [a1,a2]
 exact Nat.mul_lt_mul_of_pos_right hl h.hd
theorem WrQ.same {F G r:Nat} {s sa:Bool} {va da p d:Nat} (h:WrQ F G s r sa va da) (hl:pv F r * d = p * 2 ^ G):va * d = p * da:=by
 refine Nat.eq_of_mul_eq_mul_right (Nat.pow_pos (n:=G) (show 0 < 2 by omega)) ?_
 have a1:va * d * 2 ^ G = pv F r * d * da:=by rw [Nat.mul_right_comm,h.eq]; ac_rfl
 have a2:p * da * 2 ^ G = p * 2 ^ G * da:=Nat.mul_right_comm ..
 rw [a1,a2,hl]
theorem rq_v (s:Bool) (p d:Nat) (hd:0 < d) (hg:Nat.gcd p d = 1):Rm.V (rq s p d hd hg) s p d:=⟨rfl,rfl⟩
theorem dif_eq {x y:Rat} {s t g:Bool} {n d m e z k:Nat} (hx:Rm.V x s n d) (hy:Rm.V y t m e) (hq:Rm.Q (x - y) g z k):(Rm.sgn s n * e - Rm.sgn t m * d) * k = Rm.sgn g z * (d * e):=by
 have h1:=hx.add hy.minus
 rw [← Rat.sub_eq_add_neg] at h1
 have h2:=hq.rat
 rw [h1] at h2
 have hd:=hx.pos
 have he:=hy.pos
 have hk:=hq.pos
 have h3:=(Rat.mkRat_eq_iff (Nat.ne_of_gt (Nat.mul_pos hd he)) (by omega)).1 h2
 rw [Rm.sgn_not,Int.neg_mul,← Int.sub_eq_add_neg] at h3
 rw [h3,Int.natCast_mul]
theorem half_ord {F G r r':Nat} {s sa sb gl gr:Bool} {p d va da vb db zl dl zr dr:Nat} (hd:0 < d) (hA:WrQ F G s r sa va da) (hB:WrQ F G s r' sb vb db)
  (I1:(Rm.sgn s p * da - Rm.sgn sa va * d) * dl = Rm.sgn gl zl * (d * da)) (I2:(Rm.sgn sb vb * d - Rm.sgn s p * db) * dr = Rm.sgn gr zr * (db * d)) (hl:0 < dl) (hr:0 < dr) :
  (2 * (p * 2 ^ G) < (pv F r+pv F r') * d→if s then Rm.sgn gr zr * (dl:Int) < Rm.sgn gl zl * (dr:Int) else Rm.sgn gl zl * (dr:Int) < Rm.sgn gr zr * (dl:Int)) ∧
  (2 * (p * 2 ^ G) = (pv F r+pv F r') * d→Rm.sgn gl zl * (dr:Int) = Rm.sgn gr zr * (dl:Int)) ∧
  ((pv F r+pv F r') * d < 2 * (p * 2 ^ G)→if s then Rm.sgn gl zl * (dr:Int) < Rm.sgn gr zr * (dl:Int) else Rm.sgn gr zr * (dl:Int) < Rm.sgn gl zl * (dr:Int)):=by
 obtain ⟨U,hU⟩:∃ U,2 ^ G = U:=⟨_,rfl⟩
 have hU0:0 < U:=by rw [← hU]; exact Nat.pow_pos (by omega)
 have eA:=hA.eq
 have eB:=hB.eq
 rw [hA.sg] at I1
 rw [hB.sg] at I2
 rw [hU] at eA eB ⊢
 obtain ⟨L,hL⟩:∃ L,L = Rm.sgn gl zl * (dr:Int):=⟨_,rfl⟩
 obtain ⟨R,hR⟩:∃ R,R = Rm.sgn gr zr * (dl:Int):=⟨_,rfl⟩
 have T1:(0:Int) < (d:Int) * da * db * U:=by
  have:=Nat.mul_pos (Nat.mul_pos (Nat.mul_pos hd hA.hd) hB.hd) hU0
  exact_mod_cast this
 have T2:(0:Int) < (da:Int) * db * dl * dr:=by
  have:=Nat.mul_pos (Nat.mul_pos (Nat.mul_pos hA.hd hB.hd) hl) hr
  exact_mod_cast this
 have eA':(va:Int) * U = (pv F r:Int) * da:=by exact_mod_cast eA
 have eB':(vb:Int) * U = (pv F r':Int) * db:=by exact_mod_cast eB
 rw [← hL,← hR]
 have pos:∀ {x y:Int},x * ((d:Int) * da * db * U) = y * ((da:Int) * db * dl * dr)→(0 < y→0 < x)∧(y = 0→x = 0)∧(y < 0→x < 0):=fun {x y} e=>by
  refine ⟨fun hy=>?_,fun hy=>?_,fun hy=>?_⟩
  ·refine Int.lt_of_not_ge fun hx=>?_
   have h1:=Int.mul_pos hy T2
   have h2:=Int.mul_nonpos_of_nonpos_of_nonneg hx (Int.le_of_lt T1)
   omega
  ·rw [hy,Int.zero_mul] at e
   rcases Int.mul_eq_zero.1 e with h|h
   ·exact h
   ·omega
  ·refine Int.lt_of_not_ge fun hx=>?_
   have h1:=Int.mul_neg_of_neg_of_pos hy T2
   have h2:=Int.mul_nonneg hx (Int.le_of_lt T1)
   omega
 generalize pv F r = pa at *
 generalize pv F r' = pb at *
 have c1:((2 * (p * U):Nat):Int) = 2 * ((p:Int) * U):=by simp
 have c2:(((pa+pb) * d:Nat):Int) = ((pa:Int)+pb) * d:=by simp
 obtain ⟨u,hu⟩:∃ u:Nat,u = 2 * (p * U):=⟨_,rfl⟩
 obtain ⟨v,hv⟩:∃ v:Nat,v = (pa+pb) * d:=⟨_,rfl⟩
 rw [← hu,← hv]
 rw [← hu] at c1
 rw [← hv] at c2
 cases s
 ·have key:=half_key (x:=(p:Int)) (q:=(p:Int) * U) eA' eB' rfl (by simpa [Rm.sgn] using I1) (by simpa [Rm.sgn] using I2) hL hR
  rw [← c1,← c2] at key
  have hp:=pos key
  simp only [Bool.false_eq_true,if_false]
  exact ⟨fun h=>by have:=hp.1 (by omega); omega,fun h=>by have:=hp.2.1 (by omega); omega,fun h=>by have:=hp.2.2 (by omega); omega⟩
 ·have key:=half_key (x:=-(p:Int)) (a:=-(va:Int)) (b:=-(vb:Int)) (pa:=-(pa:Int)) (pb:=-(pb:Int)) (q:=-((p:Int) * U)) (by rw [Int.neg_mul,Int.neg_mul,eA']) (by rw [Int.neg_mul,Int.neg_mul,eB']) (by rw [Int.neg_mul]) (by simpa [Rm.sgn] using I1) (by simpa [Rm.sgn] using I2) hL hR
  have e1:(-(pa:Int)+-(pb:Int)) * (d:Int) - 2 * -((p:Int) * U) = (u:Int) - (v:Int):=by rw [c1,c2]; grind
  rw [e1] at key
  have hp:=pos key
  simp only [if_true]
  exact ⟨fun h=>by have:=hp.2.2 (by omega); omega,fun h=>by have:=hp.2.1 (by omega); omega,fun h=>by have:=hp.1 (by omega); omega⟩
theorem worth_place {E F S I B G:Nat} (h:Fm E F S I) (hB:B = 2 ^ (E - 1) - 1) (hG:(G:Int) = (B:Int)+(F:Int) - 1) (s:Bool) {r:Nat} (hr:r < I) :
  ∃ (sa:Bool) (va da:Nat),WrQ F G s r sa va da∧∀ W:World,Tb W→Calls Tryz.prog 9 #[.agg #[.int .i64 (E:Int),.int .i64 (F:Int)],.int .u64 (((if s then S else 0)+r:Nat):Int)] W fun en W'=>(∃ A N C A' N' C',en = .returned (.tuple #[.agg #[.bool sa,.slice A N C,.slice A' N' C'],.bool true])∧Mine W' W.heap.size A N C va∧Mine W' W.heap.size A' N' C' da)∧Below W.heap.size W W':=by
 obtain ⟨sa,m,x,i,j,hV,hA,hi,hj,hq⟩:=value_place h hB hG s hr
 refine ⟨sa,_,_,hq,fun W hT=>?_⟩
 exact worth_fin W E F _ m _ _ sa x (hide fun W' hb=>hV W' (hT.kept hb)) (hide fun W A N C g=>ratio_place hA hi hj hq W A N C g)
theorem worth_top {E F S I B:Nat} (h:Fm E F S I) (hB:B = 2 ^ (E - 1) - 1) (s:Bool) (W:World) :
  Calls Tryz.prog 9 #[.agg #[.int .i64 (E:Int),.int .i64 (F:Int)],.int .u64 (((if s then S else 0)+I:Nat):Int)] W fun en W'=>(∃ A N C A' N' C',en = .returned (.tuple #[.agg #[.bool false,.slice A N C,.slice A' N' C'],.bool false])∧Mine W' W.heap.size A N C 0∧Mine W' W.heap.size A' N' C' 0)∧Below W.heap.size W W':=
 (worth_inf W E F _ 8 (by decide) (hide fun W=>value_inf h hB s W)).mono fun e W' ⟨he,hb⟩=>⟨⟨none,0,0,none,0,0,he,mine_none _ _,mine_none _ _⟩,hb⟩
def Shorts (m:Nat):Prop:=m < 2 ^ wqB
theorem Shorts.mul {u v:Nat} (h:Shorts u) (k:Shorts v):¬ Over (u * v):=
 no_over (K:=wqB+wqB) (by rw [Nat.pow_add]; exact Nat.mul_lt_mul_of_lt_of_le h (Nat.le_of_lt k) (Nat.pow_pos (by omega))) (by decide)
theorem Shorts.sm {m1 d1 m2 d2:Nat} (h1:Shorts m1) (h2:Shorts d1) (h3:Shorts m2) (h4:Shorts d2) (p1:0 < d1) (p2:0 < d2):SmR (2 ^ wqB) m1 d1 m2 d2:=by
 refine ⟨Nat.le_of_lt h1,Nat.le_of_lt h2,Nat.le_of_lt h3,Nat.le_of_lt h4,p1,p2,fun v hv=>?_⟩
 refine no_over (K:=wqB+wqB+wqB+5) ?_ (by decide)
 have hp:0 < 2 ^ wqB * 2 ^ wqB * 2 ^ wqB:=Nat.mul_pos (Nat.mul_pos (Nat.pow_pos (by omega)) (Nat.pow_pos (by omega))) (Nat.pow_pos (by omega))
 rw [Nat.pow_add,Nat.pow_add,Nat.pow_add]
 omega
theorem WrQ.sa_short {F G r:Nat} {s sa:Bool} {va da:Nat} (h:WrQ F G s r sa va da):Shorts va:=Nat.lt_trans h.bv (pow_lt (by decide))
theorem cmp_nums {s t:Bool} {p d p' d':Nat} (hd:0 < d) (hg:Nat.gcd p d = 1) (hs:s = true→0 < p) (hd':0 < d') (hg':Nat.gcd p' d' = 1) (hs':t = true→0 < p') (o1:¬ Over (p * d')) (o2:¬ Over (p' * d)) (W:World) (a:Option Addr) (n c:Nat) (b:Option Addr) (k l:Nat) (a':Option Addr) (n' c':Nat) (b':Option Addr) (k' l':Nat) (h1:Num W a n p) (h2:Num W b k d) (h3:Num W a' n' p') (h4:Num W b' k' d') :
  Calls Tryz.prog 11 #[.agg #[.bool s,.slice a n c,.slice b k l],.agg #[.bool t,.slice a' n' c',.slice b' k' l']] W fun e W'=>e = .returned (.tuple #[.int .i64 (ordR (rq s p d hd hg) (rq t p' d' hd' hg')),.int .i64 0])∧Below W.heap.size W W':=
 cmp_rat s t a b a' b' n k n' k' c l c' l' _ _ W (fq_rq hs h1 h2) (fq_rq hs' h3 h4) (by show ¬ Over ((Rm.sgn s p).natAbs * d'); rw [Rm.sgn_abs]; exact o1) (by show ¬ Over ((Rm.sgn t p').natAbs * d); rw [Rm.sgn_abs]; exact o2)
theorem ord_lt_of {s t:Bool} {p d p' d':Nat} {hd:0 < d} {hg:Nat.gcd p d = 1} {hd':0 < d'} {hg':Nat.gcd p' d' = 1} (h:Rm.sgn s p * (d':Int) < Rm.sgn t p' * (d:Int)):ordR (rq s p d hd hg) (rq t p' d' hd' hg') = -1:=ordR_lt h
theorem ord_gt_of {s t:Bool} {p d p' d':Nat} {hd:0 < d} {hg:Nat.gcd p d = 1} {hd':0 < d'} {hg':Nat.gcd p' d' = 1} (h:Rm.sgn t p' * (d:Int) < Rm.sgn s p * (d':Int)):ordR (rq s p d hd hg) (rq t p' d' hd' hg') = 1:=ordR_gt h
theorem rq_same {s t:Bool} {p d p' d':Nat} {hd:0 < d} {hg:Nat.gcd p d = 1} {hd':0 < d'} {hg':Nat.gcd p' d' = 1} (h:Rm.sgn s p * (d':Int) = Rm.sgn t p' * (d:Int)):rq s p d hd hg = rq t p' d' hd' hg':=by
 refine Classical.byContradiction fun hne=>rat_ne hne h
theorem dif_small {x y:Rat} {s t g:Bool} {n d m e z k:Nat} (hx:Rm.V x s n d) (hy:Rm.V y t m e) (hq:Rm.Q (x - y) g z k):k≤d * e∧z≤n * e+m * d:=by
 have h:=dif_eq hx hy hq
 have hD:=Nat.mul_pos hx.pos hy.pos
 have h1:=congrArg Int.natAbs h
 rw [Int.natAbs_mul,Int.natAbs_mul,Rm.sgn_abs,Int.natAbs_natCast,show ((d:Int) * (e:Int)).natAbs = d * e by rw [← Int.natCast_mul,Int.natAbs_natCast]] at h1
 have hk:k ∣ d * e:=by
  have h2:k ∣ z * (d * e):=⟨_,by rw [← h1,Nat.mul_comm]⟩
  exact Nat.Coprime.dvd_of_dvd_mul_left (by rw [Nat.coprime_comm]; exact hq.co) h2
 have hk1:=Nat.le_of_dvd hD hk
 refine ⟨hk1,?_⟩
 have hN:(Rm.sgn s n * (e:Int) - Rm.sgn t m * (d:Int)).natAbs≤n * e+m * d:=by
  have a1:(Rm.sgn s n * (e:Int)).natAbs = n * e:=by rw [Int.natAbs_mul,Rm.sgn_abs,Int.natAbs_natCast]
  have a2:(Rm.sgn t m * (d:Int)).natAbs = m * d:=by rw [Int.natAbs_mul,Rm.sgn_abs,Int.natAbs_natCast]
  omega
 refine Nat.le_trans ?_ hN
 refine Nat.le_of_mul_le_mul_right (c:=d * e) ?_ hD
 rw [← h1]
 exact Nat.mul_le_mul_left _ hk1
theorem dif_over {x y x' y':Rat} {s t g s' t' g':Bool} {n d m e z k n' d' m' e' z' k':Nat} (hx:Rm.V x s n d) (hy:Rm.V y t m e) (hq:Rm.Q (x - y) g z k) (hx':Rm.V x' s' n' d') (hy':Rm.V y' t' m' e') (hq':Rm.Q (x' - y') g' z' k')
  (b1:Shorts n) (b2:Shorts d) (b3:Shorts m) (b4:Shorts e) (b2':Shorts d') (b4':Shorts e'):¬ Over (z * k'):=by
 obtain ⟨h1,h2⟩:=dif_small hx hy hq
 obtain ⟨h3,h4⟩:=dif_small hx' hy' hq'
 have p2:0 < 2 ^ wqB:=Nat.pow_pos (by omega)
 have c1:n * e < 2 ^ wqB * 2 ^ wqB:=Nat.mul_lt_mul_of_lt_of_le b1 (Nat.le_of_lt b4) p2
 have c2:m * d < 2 ^ wqB * 2 ^ wqB:=Nat.mul_lt_mul_of_lt_of_le b3 (Nat.le_of_lt b2) p2
 have c3:d' * e' < 2 ^ wqB * 2 ^ wqB:=Nat.mul_lt_mul_of_lt_of_le b2' (Nat.le_of_lt b4') p2
 refine no_over (K:=wqB+wqB+1+(wqB+wqB)) ?_ (by decide)
 rw [Nat.pow_add _ (wqB+wqB+1),Nat.pow_succ,Nat.pow_add]
 exact Nat.mul_lt_mul_of_lt_of_le (by omega) (by omega) (Nat.mul_pos p2 p2)
theorem halves_any {F G r r':Nat} {s sa sb:Bool} {p d va da vb db:Nat} (hd:0 < d) (hg:Nat.gcd p d = 1) (hs:s = true→0 < p) (bp:Shorts p) (bd:Shorts d) (hA:WrQ F G s r sa va da) (hB:WrQ F G s r' sb vb db) {u3 u4 lo:Nat} (hh:Int) (hlo:hh = s3 (2 * (p * 2 ^ G)) ((pv F r+pv F r') * d)) (hu4:u4 < 18446744073709551616) (hpar:decide (u4 % 2 = 1) = (s != decide (lo % 2 = 1))) (W:World) (a1:Option Addr) (n1 c1:Nat) (a2:Option Addr) (n2 c2:Nat) (A:Option Addr) (N C:Nat) (A':Option Addr) (N' C':Nat) (A2:Option Addr) (N2 C2:Nat) (A2':Option Addr) (N2' C2':Nat) (h1:Num W a1 n1 p) (h2:Num W a2 n2 d) (h3:Num W A N va) (h4:Num W A' N' da) (h5:Num W A2 N2 vb) (h6:Num W A2' N2' db) :
  Calls Tryz.prog 12 #[.agg #[.bool s,.slice a1 n1 c1,.slice a2 n2 c2],.agg #[.bool sa,.slice A N C,.slice A' N' C'],.agg #[.bool sb,.slice A2 N2 C2,.slice A2' N2' C2'],.agg #[ubx (s != fth 0 s (decide (lo % 2 = 1)) hh) u3 u4,ubx (s != fth 1 s (decide (lo % 2 = 1)) hh) u3 u4,ubx s u3 u4,.int .u64 (u3:Int),.int .u64 (u4:Int)]] W fun en W'=>en = .returned (.bool true)∧Below W.heap.size W W':=by
 have sA:=hA.sa_short
 have sB:=hB.sa_short
 obtain ⟨gl,zl,dl,q1,k1⟩:=rsub_ok (Shorts.sm bp bd sA hA.bd hd hA.hd) (rq_v s p d hd hg) (rq_v sa va da hA.hd hA.hg)
 obtain ⟨gr,zr,dr,q2,k2⟩:=rsub_ok (Shorts.sm sB hB.bd bp bd hB.hd hd) (rq_v sb vb db hB.hd hB.hg) (rq_v s p d hd hg)
 have I1:=dif_eq (rq_v s p d hd hg) (rq_v sa va da hA.hd hA.hg) q1
 have I2:=dif_eq (rq_v sb vb db hB.hd hB.hg) (rq_v s p d hd hg) q2
 obtain ⟨o1,o2,o3⟩:=half_ord hd hA hB I1 I2 q1.pos q2.pos
 have v1:=dif_over (rq_v s p d hd hg) (rq_v sa va da hA.hd hA.hg) q1 (rq_v sb vb db hB.hd hB.hg) (rq_v s p d hd hg) q2 bp bd sA hA.bd hB.bd bd
 have v2:=dif_over (rq_v sb vb db hB.hd hB.hg) (rq_v s p d hd hg) q2 (rq_v s p d hd hg) (rq_v sa va da hA.hd hA.hg) q1 sB hB.bd bp bd bd hA.bd
 have gz:∀ {x:Rat} {g:Bool} {z k:Nat},Rm.Q x g z k→g = true→0 < z:=fun {x g z k} q e=>Nat.pos_of_ne_zero fun e2=>by have:=q.zero e2; rw [this] at e; cases e
 have HL:=hide fun (W':World) (hb:Below W.heap.size W W')=>k1 W' a1 n1 c1 a2 n2 c2 A N C A' N' C' (h1.kept hb) (h2.kept hb) (h3.kept hb) (h4.kept hb) (fun W q r=>rchk_all s a1 a2 n1 c1 n2 c2 p d hs hd hg W q r) (fun W q r=>rchk_all sa A A' N C N' C' va da hA.h0 hA.hd hA.hg W q r)
 have HR:=hide fun (W':World) (hb:Below W.heap.size W W')=>k2 W' A2 N2 C2 A2' N2' C2' a1 n1 c1 a2 n2 c2 (h5.kept hb) (h6.kept hb) (h1.kept hb) (h2.kept hb) (fun W q r=>rchk_all sb A2 A2' N2 C2 N2' C2' vb db hB.h0 hB.hd hB.hg W q r) (fun W q r=>rchk_all s a1 a2 n1 c1 n2 c2 p d hs hd hg W q r)
 have HC:=fun (W:World) (A:Option Addr) (N C:Nat) (A':Option Addr) (N' C':Nat) (A2:Option Addr) (N2 C2:Nat) (A2':Option Addr) (N2' C2':Nat) (h1:Num W A N zl) (h2:Num W A' N' dl) (h3:Num W A2 N2 zr) (h4:Num W A2' N2' dr)=>cmp_nums q1.pos q1.co (gz q1) q2.pos q2.co (gz q2) v1 v2 W A N C A' N' C' A2 N2 C2 A2' N2' C2' h1 h2 h3 h4
 rcases Nat.lt_trichotomy (2 * (p * 2 ^ G)) ((pv F r+pv F r') * d) with hc|hc|hc
 ·have hhv:hh = -1:=by rw [hlo]; unfold s3; rw [if_pos hc]
  subst hhv
  have o:=o1 hc
  cases s
  ·rw [ord_lt_of o] at HC
   exact halves_lt W false a1 a2 n1 n2 c1 c2 sa sb gl gr A A' A2 A2' N N' N2 N2' C C' C2 C2' p d va da vb db zl dl zr dr u3 u4 h1 h2 h3 h4 h5 h6 HL HR (hide HC)
  ·rw [ord_gt_of o] at HC
   exact halves_gt W true a1 a2 n1 n2 c1 c2 sa sb gl gr A A' A2 A2' N N' N2 N2' C C' C2 C2' p d va da vb db zl dl zr dr u3 u4 h1 h2 h3 h4 h5 h6 HL HR (hide HC)
 ·have hhv:hh = 0:=by rw [hlo]; unfold s3; rw [if_neg (by omega),if_pos hc]
  subst hhv
  rw [ordR_eq (rq_same (o2 hc))] at HC
  have e0:(s != fth 0 s (decide (lo % 2 = 1)) 0) = decide (u4 % 2 = 1):=by rw [hpar]; cases s <;> cases decide (lo % 2 = 1) <;> rfl
  have e1:ubx (s != fth 1 s (decide (lo % 2 = 1)) 0) u3 u4 = ubx s u4 u3:=by cases s <;> rfl
  rw [e0,e1]
  exact halves_eq W s a1 a2 n1 n2 c1 c2 sa sb gl gr _ A A' A2 A2' N N' N2 N2' C C' C2 C2' p d va da vb db zl dl zr dr u3 u4 h1 h2 h3 h4 h5 h6 HL HR (hide HC) hu4 rfl
 ·have hhv:hh = 1:=by rw [hlo]; unfold s3; rw [if_neg (by omega),if_neg (by omega)]
  subst hhv
  have o:=o3 hc
  cases s
  ·rw [ord_gt_of o] at HC
   exact halves_gt W false a1 a2 n1 n2 c1 c2 sa sb gl gr A A' A2 A2' N N' N2 N2' C C' C2 C2' p d va da vb db zl dl zr dr u3 u4 h1 h2 h3 h4 h5 h6 HL HR (hide HC)
  ·rw [ord_lt_of o] at HC
   exact halves_lt W true a1 a2 n1 n2 c1 c2 sa sb gl gr A A' A2 A2' N N' N2 N2' C C' C2 C2' p d va da vb db zl dl zr dr u3 u4 h1 h2 h3 h4 h5 h6 HL HR (hide HC)
theorem ub_of (s e:Bool) (b lo:Nat):Value.int .u64 (((b+(lo+if e then 1 else 0):Nat)):Int) = ubx (s != e) (b+(lo+if (!s) then 1 else 0)) (b+(lo+if s then 1 else 0)):=by
 cases s <;> cases e <;> rfl
theorem worth_any {E F S I B G:Nat} (h:Fm E F S I) (hB:B = 2 ^ (E - 1) - 1) (hG:(G:Int) = (B:Int)+(F:Int) - 1) (s:Bool) {r:Nat} (hr:r≤I) :
  ∃ (sa:Bool) (va da:Nat),(r < I→WrQ F G s r sa va da)∧∀ W:World,Tb W→Calls Tryz.prog 9 #[.agg #[.int .i64 (E:Int),.int .i64 (F:Int)],.int .u64 (((if s then S else 0)+r:Nat):Int)] W fun en W'=>(∃ A N C A' N' C',en = .returned (.tuple #[.agg #[.bool sa,.slice A N C,.slice A' N' C'],.bool (decide (r < I))])∧Mine W' W.heap.size A N C va∧Mine W' W.heap.size A' N' C' da)∧Below W.heap.size W W':=by
 by_cases hlt:r < I
 ·obtain ⟨sa,va,da,hq,hc⟩:=worth_place h hB hG s hlt
  exact ⟨sa,va,da,fun _=>hq,by rw [decide_eq_true hlt]; exact hc⟩
 ·obtain rfl:r = I:=by omega
  exact ⟨false,0,0,fun h=>absurd h hlt,fun W _=>by rw [decide_eq_false hlt]; exact worth_top h hB s W⟩
theorem sides_own {E F S I B G:Nat} (h:Fm E F S I) (hB:B = 2 ^ (E - 1) - 1) (hG:(G:Int) = (B:Int)+(F:Int) - 1) (s:Bool) (a:Option Addr) (n c:Nat) (b:Option Addr) (k l:Nat) (w:World) (hT:Tb w) (hN:Nb5 w) {p d:Nat} (gN:Num w a n p) (gD:Num w b k d) (hd:0 < d) (hg:Nat.gcd p d = 1) (hs:s = true→0 < p)
  (ok:∀ W:World,Below w.heap.size w W→Calls Tryz.prog 6 #[.agg #[.int .i64 E,.int .i64 F],.agg #[.bool s,.slice a n c,.slice b k l]] W fun e W'=>e = .returned (.bool true)∧Below W.heap.size W W')
  {R:Nat} (hR:R < I) (he:pv F R * d = p * 2 ^ G)
  (HR:∀ (md:Nat) (W:World),md≤4→Below w.heap.size w W→Calls Tryz.prog 7 #[.agg #[.int .i64 E,.int .i64 F],.agg #[.bool s,.slice a n c,.slice b k l],.bool s,.int .u8 (md:Int)] W fun e W'=>e = .returned (.tuple #[.int .u64 (((if s then S else 0)+R:Nat):Int),.int .u8 0,.int .i64 0])∧Below W.heap.size W W') :
  Calls Tryz.prog 3 #[.agg #[.int .i64 E,.int .i64 F],.agg #[.bool s,.slice a n c,.slice b k l]] w fun e w'=>e = .returned (.bool true)∧Below w.heap.size w w':=by
 obtain ⟨sa,va,da,hq,hw⟩:=worth_place h hB hG s hR
 have hsame:=hq.same he
 have e1:Rm.sgn sa va * (d:Int) = Rm.sgn s p * (da:Int):=by rw [hq.sg,← Rm.sgn_scale,← Rm.sgn_scale,hsame]
 have hub:∀ c:Bool,ubx c ((if s then S else 0)+R) ((if s then S else 0)+R) = .int .u64 (((if s then S else 0)+R:Nat):Int):=fun c=>by cases c <;> rfl
 refine sides_all w E F s a b n k c l p d false false true ((if s then S else 0)+R) ((if s then S else 0)+R) 0 0 0 0 0 (kI s R) (kI s R) true true va da va da sa sa hT hN (hide ok) gN gD (hide fun W hb=>by rw [hub]; exact HR 0 W (by decide) hb) (hide fun W hb=>by rw [hub]; exact HR 1 W (by decide) hb) (hide fun W hb=>by rw [hub]; exact HR 2 W (by decide) hb) (hide fun W hb=>HR 3 W (by decide) hb) (hide fun W hb=>HR 4 W (by decide) hb) (hide fun W _=>key_any h s R (Nat.lt_trans hR h.lt) W) (hide fun W _=>key_any h s R (Nat.lt_trans hR h.lt) W) (Int.le_refl _) (by omega) rfl (fun _=>⟨rfl,rfl,rfl,rfl,rfl,rfl,rfl,rfl⟩) (fun h=>absurd h (by decide)) (hide fun W hb=>hw W (hT.kept hb)) (hide fun W hb=>hw W (hT.kept hb)) (hide fun _ W A N C A' N' C' hb h1 h2=>?_) (hide fun h=>absurd h (by decide)) (hide fun h=>absurd h (by decide)) (hide fun h=>absurd h (by decide))
 have:=same_rat sa s A A' a b N N' n k C C' c l (rq sa va da hq.hd hq.hg) (rq s p d hd hg) W (fq_rq hq.h0 h1 h2) (fq_rq hs (gN.kept hb) (gD.kept hb))
 rw [decide_eq_true (rq_same e1)] at this
 exact this
theorem sides_apart {E F S I B G:Nat} (h:Fm E F S I) (hB:B = 2 ^ (E - 1) - 1) (hG:(G:Int) = (B:Int)+(F:Int) - 1) (s:Bool) (a:Option Addr) (n c:Nat) (b:Option Addr) (k l:Nat) (w:World) (hT:Tb w) (hN:Nb5 w) {p d:Nat} (gN:Num w a n p) (gD:Num w b k d) (hd:0 < d) (hg:Nat.gcd p d = 1) (hs:s = true→0 < p) (sp:Shorts p) (sd:Shorts d)
  (ok:∀ W:World,Below w.heap.size w W→Calls Tryz.prog 6 #[.agg #[.int .i64 E,.int .i64 F],.agg #[.bool s,.slice a n c,.slice b k l]] W fun e W'=>e = .returned (.bool true)∧Below W.heap.size W W')
  {lo:Nat} {hh:Int} (hlo:lo < I) (h1:pv F lo * d < p * 2 ^ G) (h2:lo+1 < I→p * 2 ^ G < pv F (lo+1) * d∧hh = s3 (2 * (p * 2 ^ G)) ((pv F lo+pv F (lo+1)) * d)) (fl:Nat→Nat) (hfl:∀ md,fl md = 1∨fl md = 3∨fl md = 5)
  (HR:∀ (md:Nat) (W:World),md≤4→Below w.heap.size w W→Calls Tryz.prog 7 #[.agg #[.int .i64 E,.int .i64 F],.agg #[.bool s,.slice a n c,.slice b k l],.bool s,.int .u8 (md:Int)] W fun e W'=>e = .returned (.tuple #[.int .u64 (((if s then S else 0)+(lo+if fth md s (decide (lo % 2 = 1)) hh then 1 else 0):Nat):Int),.int .u8 (fl md:Int),.int .i64 0])∧Below W.heap.size W W') :
  Calls Tryz.prog 3 #[.agg #[.int .i64 E,.int .i64 F],.agg #[.bool s,.slice a n c,.slice b k l]] w fun e w'=>e = .returned (.bool true)∧Below w.heap.size w w':=by
 obtain ⟨r4,hr4⟩:∃ r4,r4 = lo+if s then 1 else 0:=⟨_,rfl⟩
 obtain ⟨r3,hr3⟩:∃ r3,r3 = lo+if (!s) then 1 else 0:=⟨_,rfl⟩
 have l4:r4≤I:=by rw [hr4]; split <;> omega
 have l3:r3≤I:=by rw [hr3]; split <;> omega
 obtain ⟨sa,va,da,qa,wa⟩:=worth_any h hB hG s l4
 obtain ⟨sb,vb,db,qb,wb⟩:=worth_any h hB hG s l3
 have hS2:S % 2 = 0:=by
  rw [h.hS]
  have:=h.fo.f1
  obtain ⟨q,hq⟩:∃ q,F+E = q+1:=⟨F+E - 1,by omega⟩
  rw [hq,Nat.pow_succ]; omega
 have hS63:=h.s63
 have hI:=h.lt
 have H:∀ md:Nat,md≤4→∀ W:World,Below w.heap.size w W→Calls Tryz.prog 7 #[.agg #[.int .i64 E,.int .i64 F],.agg #[.bool s,.slice a n c,.slice b k l],.bool s,.int .u8 (md:Int)] W fun e W'=>e = .returned (.tuple #[ubx (s != fth md s (decide (lo % 2 = 1)) hh) ((if s then S else 0)+r3) ((if s then S else 0)+r4),.int .u8 (fl md:Int),.int .i64 0])∧Below W.heap.size W W':=fun md hm W hb=>by
  have:=HR md W hm hb
  rw [ub_of s,← hr3,← hr4] at this
  exact this
 have f2:(s != fth 2 s (decide (lo % 2 = 1)) hh) = s:=by cases s <;> rfl
 have f3:ubx (s != fth 3 s (decide (lo % 2 = 1)) hh) ((if s then S else 0)+r3) ((if s then S else 0)+r4) = .int .u64 (((if s then S else 0)+r3:Nat):Int):=by cases s <;> rfl
 have f4:ubx (s != fth 4 s (decide (lo % 2 = 1)) hh) ((if s then S else 0)+r3) ((if s then S else 0)+r4) = .int .u64 (((if s then S else 0)+r4:Nat):Int):=by cases s <;> rfl
 have H2:=H 2 (by decide)
 have H3:=H 3 (by decide)
 have H4:=H 4 (by decide)
 rw [f2] at H2
 rw [f3] at H3
 rw [f4] at H4
 have ek:kI s r3 = kI s r4+1:=by rw [hr3,hr4]; cases s <;> simp [kI] <;> omega
 have key3:∀ W:World,Calls Tryz.prog 8 #[.agg #[.int .i64 (E:Int),.int .i64 (F:Int)],.int .u64 (((if s then S else 0)+r3:Nat):Int)] W fun e w'=>e = .returned (.int .i64 (kI s r4+1))∧Below W.heap.size W w':=fun W=>by rw [← ek]; exact key_any h s r3 (by omega) W
 have hne:(if s then S else 0)+r3≠(if s then S else 0)+r4:=by rw [hr3,hr4]; cases s <;> simp <;> omega
 have hot:(decide (r4 < I) || decide (r3 < I)) = true:=by
  rw [hr3,hr4]; cases s
  ·rw [decide_eq_true (show lo+(if false = true then 1 else 0) < I from hlo)]; rfl
  ·rw [decide_eq_true (show lo+(if (!true) = true then 1 else 0) < I from hlo),Bool.or_true]
 refine sides_all w E F s a b n k c l p d _ _ false ((if s then S else 0)+r3) ((if s then S else 0)+r4) (fl 0) (fl 1) (fl 2) (fl 3) (fl 4) (kI s r4) (kI s r4+1) (decide (r4 < I)) (decide (r3 < I)) va da vb db sa sb hT hN (hide ok) gN gD (hide (H 0 (by decide))) (hide (H 1 (by decide))) (hide H2) (hide H3) (hide H4) (hide fun W _=>key_any h s r4 (by omega) W) (hide fun W _=>key3 W) (by omega) (Int.le_refl _) hot (fun h=>absurd h (by decide))
  (fun _=>⟨hne,rfl,⟨(flag_bits _ (hfl 0)).1,(flag_bits _ (hfl 1)).1,(flag_bits _ (hfl 2)).1,(flag_bits _ (hfl 3)).1,(flag_bits _ (hfl 4)).1⟩,(flag_bits _ (hfl 0)).2,(flag_bits _ (hfl 1)).2,(flag_bits _ (hfl 2)).2,(flag_bits _ (hfl 3)).2,(flag_bits _ (hfl 4)).2⟩) (hide fun W hb=>wa W (hT.kept hb)) (hide fun W hb=>wb W (hT.kept hb)) (hide fun h=>absurd h (by decide)) (hide fun _ h4 W A N C A' N' C' hb g1 g2=>?_) (hide fun _ h3 W A N C A' N' C' hb g1 g2=>?_) (hide fun _ h4 h3 W A N C A' N' C' A2 N2 C2 A2' N2' C2' hb g1 g2 g3 g4=>?_)
 ·have hl:=of_decide_eq_true h4
  have q:=qa hl
  have e1:Rm.sgn sa va * (d:Int) < Rm.sgn s p * (da:Int):=by
   rw [q.sg,← Rm.sgn_scale,← Rm.sgn_scale]
   cases s
   ·have:=q.lt (by rw [hr4]; exact h1); simp only [Rm.sgn,Bool.false_eq_true,if_false]; omega
   ·have:=q.gt (by rw [hr4] at hl ⊢; exact (h2 hl).1); simp only [Rm.sgn,if_true]; omega
  have:=cmp_nums q.hd q.hg q.h0 hd hg hs (Shorts.mul q.sa_short sd) (Shorts.mul sp q.bd) W A N C A' N' C' a n c b k l g1 g2 (gN.kept hb) (gD.kept hb)
  rw [ord_lt_of e1] at this
  exact this
 ·have hl:=of_decide_eq_true h3
  have q:=qb hl
  have e1:Rm.sgn s p * (db:Int) < Rm.sgn sb vb * (d:Int):=by
   rw [q.sg,← Rm.sgn_scale,← Rm.sgn_scale]
   cases s
   ·have:=q.gt (by rw [hr3] at hl ⊢; exact (h2 hl).1); simp only [Rm.sgn,Bool.false_eq_true,if_false]; omega
   ·have:=q.lt (by rw [hr3]; exact h1); simp only [Rm.sgn,if_true]; omega
  have:=cmp_nums hd hg hs q.hd q.hg q.h0 (Shorts.mul sp q.bd) (Shorts.mul q.sa_short sd) W a n c b k l A N C A' N' C' (gN.kept hb) (gD.kept hb) g1 g2
  rw [ord_lt_of e1] at this
  exact this
 ·have k4:=of_decide_eq_true h4
  have k3:=of_decide_eq_true h3
  have hl:lo+1 < I:=by
   cases s
   ·rw [hr3] at k3; exact k3
   ·rw [hr4] at k4; exact k4
  have hv:hh = s3 (2 * (p * 2 ^ G)) ((pv F r4+pv F r3) * d):=by
   rw [(h2 hl).2,hr3,hr4]
   cases s
   ·rfl
   ·rw [Nat.add_comm (pv F lo)]; rfl
  have hp:decide (((if s then S else 0)+r4) % 2 = 1) = (s != decide (lo % 2 = 1)):=by
   rw [hr4]
   cases s
   ·rw [show ((if false = true then S else 0)+(lo+if false = true then 1 else 0)) = lo by simp]
    cases decide (lo % 2 = 1) <;> rfl
   ·rw [show ((if true = true then S else 0)+(lo+if true = true then 1 else 0)) = S+(lo+1) by simp]
    by_cases ho:lo % 2 = 1
    ·rw [decide_eq_true ho,decide_eq_false (by omega)]; rfl
    ·rw [decide_eq_false ho,decide_eq_true (by omega)]; rfl
  have hx:=halves_any hd hg hs sp sd (qa k4) (qb k3) (u3:=(if s then S else 0)+r3) (lo:=lo) hh hv (by split <;> omega) hp W a n c b k l A N C A' N' C' A2 N2 C2 A2' N2' C2' (gN.kept hb) (gD.kept hb) g1 g2 g3 g4
  exact hx
theorem roundSides_any (E F:Int) (s:Bool) (a:Option Addr) (n c:Nat) (xs:List Nat) (b:Option Addr) (k l:Nat) (ys:List Nat) (w:World) (hT:Tb w) (hN:Nb5 w)
  (hn:xs.length = n) (hnb:n≤9223372036854775807) (hl:Lim w a xs) (hw:Pl.Wf xs) (hk:ys.length = k) (hkb:k≤9223372036854775807) (hly:Lim w b ys) (hwy:Pl.Wf ys) :
  Calls Tryz.prog 3 #[.agg #[.int .i64 E,.int .i64 F],.agg #[.bool s,.slice a n c,.slice b k l]] w fun e w'=>e = .returned (.bool true)∧Below w.heap.size w w':=by
 rcases asked_any E F s a b n c k l xs ys w hn hnb hl hw hk hkb hly hwy with h1|⟨⟨e,f,rfl,rfl,hfo⟩,p,d,gN,gD,hd,hg,hs,bp,bd,hC,ok1⟩
 ·exact sides_no w E F s a b n k c l hT hN (hide h1)
 have hf:Fm e f (2 ^ (f+e)) ((2 ^ e - 1) * 2 ^ f):=⟨hfo,rfl,rfl⟩
 generalize 2 ^ (f+e) = S at hf
 generalize (2 ^ e - 1) * 2 ^ f = I at hf
 obtain ⟨B,hB⟩:∃ B,B = 2 ^ (e - 1) - 1:=⟨_,rfl⟩
 have hB1:1≤B:=by
  have:2 ^ 1≤2 ^ (e - 1):=Nat.pow_le_pow_right (by omega) (by have:=hfo.e2; omega)
  omega
 obtain ⟨G,hG⟩:∃ G:Nat,(G:Int) = (B:Int)+(f:Int) - 1:=⟨B+f - 1,by omega⟩
 have hI0:0 < I:=by
  rw [hf.hI]
  have:2 ^ 2≤2 ^ e:=Nat.pow_le_pow_right (by omega) hfo.e2
  exact Nat.mul_pos (by omega) (pow_pos2 _)
 have sp:Shorts p:=by
  obtain ⟨K,hK⟩:∃ K,K = 1920:=⟨_,rfl⟩
  rw [← hK] at bp
  exact Nat.lt_of_lt_of_le (blen_lt bp) (Nat.pow_le_pow_right (by omega) (by unfold wqB; omega))
 have sd:Shorts d:=by
  obtain ⟨K,hK⟩:∃ K,K = 1920:=⟨_,rfl⟩
  rw [← hK] at bd
  exact Nat.lt_of_lt_of_le (blen_lt bd) (Nat.pow_le_pow_right (by omega) (by unfold wqB; omega))
 rcases Nat.eq_zero_or_pos p with h0|h0
 ·obtain rfl:s = false:=by
   cases s
   ·rfl
   ·have:=hs rfl; omega
  subst h0
  exact sides_own hf hB hG false a n c b k l w hT hN gN gD hd hg hs ok1 hI0 (by rw [pv_zero]; simp) fun md W hm hb=>sratio_zero hf hm a b n c k l d W (hT.kept hb) (gN.kept hb) (gD.kept hb) hC
 ·obtain ⟨M,K,X,r0,ρ,v,hP,hr⟩:=rats_all hf hB hG h0 hd hg (by omega) (by omega) (by omega) (by omega)
  by_cases hw9:ρ = 0∧r0 < I
  ·refine sides_own hf hB hG s a n c b k l w hT hN gN gD hd hg hs ok1 hw9.2 (hP.eq.1 hw9.1) fun md W hm hb=>?_
   have:=hr md s s a n c b k l W hm (hT.kept hb) (gN.kept hb) (gD.kept hb)
   rw [(hP.whole (S:=S) hw9.2 hw9.1 md s).1,(hP.whole (S:=S) hw9.2 hw9.1 md s).2] at this
   exact this
  ·obtain ⟨lo,hh,q1,q2,q3,q4⟩:=hP.apart hd (S:=S) hI0 hw9
   refine sides_apart hf hB hG s a n c b k l w hT hN gN gD hd hg hs sp sd ok1 q1 q2 q3 (fun md=>flagR B f I md s M K X) (fun md=>(q4 md s).2) fun md W hm hb=>?_
   have:=hr md s s a n c b k l W hm (hT.kept hb) (gN.kept hb) (gD.kept hb)
   rw [(q4 md s).1] at this
   exact this
end Go.Proofs.YtfjegmlpkiaifaaGreatDoor
