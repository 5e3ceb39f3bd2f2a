/- Of what RatioBackRow stands on: RbTxtW. -/
import Derived.Test.YtcfccblpcngeaaaGreatPbf
import Derived.Test.YtcfccblpcngeaaaGreatPba
import Derived.Test.YtcfccblpcngeaaaGreatPaj
import Derived.Test.YtcfccblpcngeaaaGreatPab
namespace Go.Proofs.YtcfccblpcngeaaaGreat
open Go.RowKit
set_option maxHeartbeats 2000000
set_option maxRecDepth 20000
theorem num_1_laid {W:World} {b:Nat} {t:TypeId} (h:W.heap[b]? = some (.cells #[.int .u32 1] t (0,0))):Num W (some ⟨b,0,none⟩) 1 1:=num_laid (m:=1) h (by decide) (by decide)
theorem zisone (w:World) (a:Option Addr) (n c x lo:Nat) (f r:Bool) (h1:Num w a n x) (HL:Hid (∀ W:World,Num W a n x→Calls Tryz.prog 46 #[.agg #[.slice a n c]] W fun e W'=>e = .returned (.tuple #[.int .u64 (lo:Int),.bool f])∧Below W.heap.size W W')) (hr:((lo:Int) == 1) = r) :
  Calls Tryz.prog 19 #[.agg #[.slice a n c]] w fun en w'=>en = .returned (.bool r)∧Below w.heap.size w w':=by
 refine calls_sym Tryz.func19 rfl (by kernel_rfl) fun T hK=>?_
 replace hK:Kn T _ [(0,.agg #[.slice a n c])]:=hK
 have hS:=Fb.begin w
 have hG:GsAt [gN a n x] w:=⟨h1,trivial⟩
 refine wq hS hG hK (fun p1=>[.n 1 #[.slice a n c] 28,.v 2 (.bool false)]) (fun p1=>[(1,pT (p1 0).N 0),(2,.bool false)]) (fun p1=>?_) (fun p1 W1 T hF hK=>?_)
 ·refine okn ?_
  refine okv ?_
  exact ok_nil
 replace hS:=SymF.fc hS hF [1000] [⟨(p1 0).N,#[.slice a n c],28,true⟩]
 replace hG:=hF.gx
 clear hF
 refine wq hS hG hK (fun p2=>[.l 6 (.agg #[.slice a n c]) 0 0,.c (some 7) (cV (.tuple #[.int .u64 (lo:Int),.bool f])),.v 5 (.tuple #[.int .u64 (lo:Int),.bool f]),.v 8 (.int .u64 (lo:Int)),.v 9 (.bool f),.v 3 (.int .u64 (lo:Int)),.v 4 (.bool f)]) (fun p2=>[(2,.bool false),(3,.int .u64 (lo:Int))]) (fun p2=>?_) (fun p2 W2 T hF hK=>?_)
 ·refine okl ?_
  refine okc (fun W cx=>as_v (unhide HL _ (cx.G.1))) ?_
  iterate 5 refine okv ?_
  exact ok_nil
 obtain ⟨hS,hG⟩:=SymF.fg hS hF
 clear hF
 refine wq hS hG hK (fun p3=>[.v 10 (.int .u64 (lo:Int)),.v 11 (.bool r),.v 2 (.bool r)]) (fun p3=>[(2,.bool r)]) (fun p3=>?_) (fun p3 W3 T hF hK=>?_)
 ·refine okv ?_
  refine okvb (hr) ?_
  refine okv ?_
  exact ok_nil
 obtain ⟨hS,hG⟩:=SymF.fg hS hF
 clear hF
 refine wp_ret ?_
 exact sym_end hS hK (.bool r) [] [] (by kernel_rfl) (by kernel_rfl) ⟨rfl,hS.fr⟩
theorem zone_any (a:Option Addr) (n c x:Nat) (w:World) (h:Num w a n x):Calls Tryz.prog 19 #[.agg #[.slice a n c]] w fun e w'=>e = .returned (.bool (decide (x = 1)))∧Below w.heap.size w w':=by
 by_cases h2:n≤2
 ·refine zisone w a n c x x true _ h (hide fun W k=>low_small a n c x W k h2) ?_
  by_cases hx:x = 1
  ·subst hx; rfl
  ·rw [decide_eq_false hx]; exact beq_false_of_ne (by omega)
 ·have hx:x≠1:=by
   rintro rfl
   obtain ⟨xs,hn,_,hw,hN,hv,hb⟩:=h
   have:=Pl.val_le_len hw hN 1
   omega
  refine zisone w a n c x 0 false _ h (hide fun W k=>low_big a n c x W k (by omega)) ?_
  rw [decide_eq_false hx]; rfl
theorem ztx_tt (w:World) (a b:Option Addr) (n c k l x y:Nat) (t:ByteArray) (h1:Num w a n x) (h2:Num w b k y) (ho:decide (y = 1) = true) (HC:Hid (∀ W:World,Num W a n x→Num W b k y→Calls Tryz.prog 15 #[.agg #[.bool true,.slice a n c,.slice b k l]] W fun e W'=>e = .returned (.int .i64 0)∧Below W.heap.size W W')) (T1:Hid (∀ W:World,Num W a n x→Calls Tryz.prog 18 #[.agg #[.slice a n c]] W fun e W'=>e = .returned (.tuple #[.string t,.int .i64 0])∧Below W.heap.size W W')) (ht:t.size≤4000000000)  :
  Calls Tryz.prog 6 #[.agg #[.bool true,.slice a n c,.slice b k l]] w fun en w'=>en = .returned (.tuple #[.string (⟨#[45]⟩ ++ t),.int .i64 0])∧Below w.heap.size w w':=by
 refine calls_sym Tryz.func6 rfl (by kernel_rfl) fun T hK=>?_
 replace hK:Kn T _ [(0,.agg #[.bool true,.slice a n c,.slice b k l])]:=hK
 have hS:=Fb.begin w
 have hG:GsAt [gN a n x,gN b k y] w:=⟨h1,h2,trivial⟩
 refine wq hS hG hK (fun p1=>[.n 1 #[.bool true,.slice a n c,.slice b k l] 30,.v 2 (.string { data:=#[] }),.v 3 (.int .i64 0)]) (fun p1=>[(1,pT (p1 0).N 0),(2,.string { data:=#[] }),(3,.int .i64 0)]) (fun p1=>?_) (fun p1 W1 T hF hK=>?_)
 ·refine okn ?_
  iterate 2 refine okv ?_
  exact ok_nil
 replace hS:=SymF.fc hS hF [1000] [⟨(p1 0).N,#[.bool true,.slice a n c,.slice b k l],30,true⟩]
 replace hG:=hF.gx
 clear hF
 refine wp_seq ?_
 refine wq hS hG hK (fun p2=>[.l 8 (.agg #[.bool true,.slice a n c,.slice b k l]) 0 0,.c (some 9) (cV (.int .i64 0)),.v 4 (.int .i64 0)]) (fun p2=>[(1,pT (p1 0).N 0),(2,.string { data:=#[] }),(3,.int .i64 0),(4,.int .i64 0)]) (fun p2=>?_) (fun p2 W2 T hF hK=>?_)
 ·refine okl ?_
  refine okc (fun W cx=>as_v (unhide HC _ (cx.G.1) (cx.G.2.1))) ?_
  refine okv ?_
  exact ok_nil
 obtain ⟨hS,hG⟩:=SymF.fg hS hF
 clear hF
 refine wq hS hG hK (fun p3=>[.v 10 (.int .i64 0),.v 11 (.bool false)]) (fun p3=>[(1,pT (p1 0).N 0),(2,.string { data:=#[] }),(3,.int .i64 0),(4,.int .i64 0),(11,.bool false)]) (fun p3=>?_) (fun p3 W3 T hF hK=>?_)
 ·iterate 2 refine okv ?_
  exact ok_nil
 obtain ⟨hS,hG⟩:=SymF.fg hS hF
 clear hF
 refine wp_cond_false (hK.ew 11) (wp_skip (then_n ?_))
 refine wq hS hG hK (fun p4=>[.v 14 (pT (p1 0).N 1),.l 15 (.agg #[.slice a n c]) 0 1,.c (some 16) (cV (.tuple #[.string t,.int .i64 0])),.v 13 (.tuple #[.string t,.int .i64 0]),.v 17 (.string t),.v 18 (.int .i64 0),.v 5 (.string t),.v 6 (.int .i64 0)]) (fun p4=>[(1,pT (p1 0).N 0),(2,.string { data:=#[] }),(3,.int .i64 0),(4,.int .i64 0),(5,.string t),(6,.int .i64 0)]) (fun p4=>?_) (fun p4 W4 T hF hK=>?_)
 ·refine okv ?_
  refine okl ?_
  refine okc (fun W cx=>as_v (unhide T1 _ (cx.G.1))) ?_
  iterate 5 refine okv ?_
  exact ok_nil
 obtain ⟨hS,hG⟩:=SymF.fg hS hF
 clear hF
 refine wp_seq ?_
 refine wq hS hG hK (fun p5=>[.v 19 (.int .i64 0),.v 20 (.bool false)]) (fun p5=>[(1,pT (p1 0).N 0),(2,.string { data:=#[] }),(3,.int .i64 0),(4,.int .i64 0),(5,.string t),(6,.int .i64 0),(20,.bool false)]) (fun p5=>?_) (fun p5 W5 T hF hK=>?_)
 ·iterate 2 refine okv ?_
  exact ok_nil
 obtain ⟨hS,hG⟩:=SymF.fg hS hF
 clear hF
 refine wp_cond_false (hK.ew 20) (wp_skip ?_)
 refine then_n (wp_seq ?_)
 refine wq hS hG hK (fun p6=>[.v 22 (pT (p1 0).N 0),.l 23 (.bool true) 0 0]) (fun p6=>[(1,pT (p1 0).N 0),(2,.string { data:=#[] }),(3,.int .i64 0),(4,.int .i64 0),(5,.string t),(6,.int .i64 0),(23,.bool true)]) (fun p6=>?_) (fun p6 W6 T hF hK=>?_)
 ·refine okv ?_
  refine okl ?_
  exact ok_nil
 obtain ⟨hS,hG⟩:=SymF.fg hS hF
 clear hF
 refine wp_cond_true (hK.ew 23) ?_
 refine wg hS hG hK (fun p7=>[.v 24 (.string t),.v 25 (.string (⟨#[45]⟩ ++ t)),.v 5 (.string (⟨#[45]⟩ ++ t))]) (fun p7=>[(1,pT (p1 0).N 0),(2,.string { data:=#[] }),(3,.int .i64 0),(4,.int .i64 0),(5,.string (⟨#[45]⟩ ++ t)),(6,.int .i64 0)]) (fun p7=>?_) (fun p7 W7 T hF hK=>?_)
 ·refine okv ?_
  refine ok_vr (script_cat (by have:(⟨#[45]⟩:ByteArray).size = 1:=rfl; omega)) (by kernel_rfl) ?_
  refine okv ?_
  exact ok_nil
 obtain ⟨hS,hG⟩:=SymF.fg hS hF
 clear hF
 refine then_n (wp_seq ?_)
 refine wq hS hG hK (fun p8=>[.v 26 (pT (p1 0).N 2),.l 27 (.agg #[.slice b k l]) 0 2,.c (some 28) (cV (.bool true))]) (fun p8=>[(1,pT (p1 0).N 0),(2,.string { data:=#[] }),(3,.int .i64 0),(4,.int .i64 0),(5,.string (⟨#[45]⟩ ++ t)),(6,.int .i64 0),(28,.bool true)]) (fun p8=>?_) (fun p8 W8 T hF hK=>?_)
 ·refine okv ?_
  refine okl ?_
  refine okc (fun W cx=>as_v ((zone_any b k l y _ (cx.G.2.1)).mono fun _ _ h9=>⟨by rw [h9.1,ho],h9.2⟩)) ?_
  exact ok_nil
 obtain ⟨hS,hG⟩:=SymF.fg hS hF
 clear hF
 refine wp_cond_true (hK.ew 28) ?_
 refine wq hS hG hK (fun p9=>[.v 29 (.string (⟨#[45]⟩ ++ t)),.v 2 (.string (⟨#[45]⟩ ++ t)),.v 3 (.int .i64 0)]) (fun p9=>[(1,pT (p1 0).N 0),(2,.string (⟨#[45]⟩ ++ t)),(3,.int .i64 0),(4,.int .i64 0),(5,.string (⟨#[45]⟩ ++ t)),(6,.int .i64 0)]) (fun p9=>?_) (fun p9 W9 T hF hK=>?_)
 ·iterate 3 refine okv ?_
  exact ok_nil
 obtain ⟨hS,hG⟩:=SymF.fg hS hF
 clear hF
 refine wp_ret ?_
 refine then_r ?_
 exact sym_end hS hK (.tuple #[.string (⟨#[45]⟩ ++ t),.int .i64 0]) [] [] (by kernel_rfl) (by kernel_rfl) ⟨rfl,hS.fr⟩
theorem ztx_tf (w:World) (a b:Option Addr) (n c k l x y:Nat) (t u:ByteArray) (h1:Num w a n x) (h2:Num w b k y) (ho:decide (y = 1) = false) (HC:Hid (∀ W:World,Num W a n x→Num W b k y→Calls Tryz.prog 15 #[.agg #[.bool true,.slice a n c,.slice b k l]] W fun e W'=>e = .returned (.int .i64 0)∧Below W.heap.size W W')) (T1:Hid (∀ W:World,Num W a n x→Calls Tryz.prog 18 #[.agg #[.slice a n c]] W fun e W'=>e = .returned (.tuple #[.string t,.int .i64 0])∧Below W.heap.size W W')) (T2:Hid (∀ W:World,Num W b k y→Calls Tryz.prog 18 #[.agg #[.slice b k l]] W fun e W'=>e = .returned (.tuple #[.string u,.int .i64 0])∧Below W.heap.size W W')) (ht:t.size≤4000000000) (hu:u.size≤4000000000)  :
  Calls Tryz.prog 6 #[.agg #[.bool true,.slice a n c,.slice b k l]] w fun en w'=>en = .returned (.tuple #[.string ((⟨#[45]⟩ ++ t) ++ ⟨#[47]⟩ ++ u),.int .i64 0])∧Below w.heap.size w w':=by
 refine calls_sym Tryz.func6 rfl (by kernel_rfl) fun T hK=>?_
 replace hK:Kn T _ [(0,.agg #[.bool true,.slice a n c,.slice b k l])]:=hK
 have hS:=Fb.begin w
 have hG:GsAt [gN a n x,gN b k y] w:=⟨h1,h2,trivial⟩
 refine wq hS hG hK (fun p1=>[.n 1 #[.bool true,.slice a n c,.slice b k l] 30,.v 2 (.string { data:=#[] }),.v 3 (.int .i64 0)]) (fun p1=>[(1,pT (p1 0).N 0),(2,.string { data:=#[] }),(3,.int .i64 0)]) (fun p1=>?_) (fun p1 W1 T hF hK=>?_)
 ·refine okn ?_
  iterate 2 refine okv ?_
  exact ok_nil
 replace hS:=SymF.fc hS hF [1000] [⟨(p1 0).N,#[.bool true,.slice a n c,.slice b k l],30,true⟩]
 replace hG:=hF.gx
 clear hF
 refine wp_seq ?_
 refine wq hS hG hK (fun p2=>[.l 8 (.agg #[.bool true,.slice a n c,.slice b k l]) 0 0,.c (some 9) (cV (.int .i64 0)),.v 4 (.int .i64 0)]) (fun p2=>[(1,pT (p1 0).N 0),(2,.string { data:=#[] }),(3,.int .i64 0),(4,.int .i64 0)]) (fun p2=>?_) (fun p2 W2 T hF hK=>?_)
 ·refine okl ?_
  refine okc (fun W cx=>as_v (unhide HC _ (cx.G.1) (cx.G.2.1))) ?_
  refine okv ?_
  exact ok_nil
 obtain ⟨hS,hG⟩:=SymF.fg hS hF
 clear hF
 refine wq hS hG hK (fun p3=>[.v 10 (.int .i64 0),.v 11 (.bool false)]) (fun p3=>[(1,pT (p1 0).N 0),(2,.string { data:=#[] }),(3,.int .i64 0),(4,.int .i64 0),(11,.bool false)]) (fun p3=>?_) (fun p3 W3 T hF hK=>?_)
 ·iterate 2 refine okv ?_
  exact ok_nil
 obtain ⟨hS,hG⟩:=SymF.fg hS hF
 clear hF
 refine wp_cond_false (hK.ew 11) (wp_skip (then_n ?_))
 refine wq hS hG hK (fun p4=>[.v 14 (pT (p1 0).N 1),.l 15 (.agg #[.slice a n c]) 0 1,.c (some 16) (cV (.tuple #[.string t,.int .i64 0])),.v 13 (.tuple #[.string t,.int .i64 0]),.v 17 (.string t),.v 18 (.int .i64 0),.v 5 (.string t),.v 6 (.int .i64 0)]) (fun p4=>[(1,pT (p1 0).N 0),(2,.string { data:=#[] }),(3,.int .i64 0),(4,.int .i64 0),(5,.string t),(6,.int .i64 0)]) (fun p4=>?_) (fun p4 W4 T hF hK=>?_)
 ·refine okv ?_
  refine okl ?_
  refine okc (fun W cx=>as_v (unhide T1 _ (cx.G.1))) ?_
  iterate 5 refine okv ?_
  exact ok_nil
 obtain ⟨hS,hG⟩:=SymF.fg hS hF
 clear hF
 refine wp_seq ?_
 refine wq hS hG hK (fun p5=>[.v 19 (.int .i64 0),.v 20 (.bool false)]) (fun p5=>[(1,pT (p1 0).N 0),(2,.string { data:=#[] }),(3,.int .i64 0),(4,.int .i64 0),(5,.string t),(6,.int .i64 0),(20,.bool false)]) (fun p5=>?_) (fun p5 W5 T hF hK=>?_)
 ·iterate 2 refine okv ?_
  exact ok_nil
 obtain ⟨hS,hG⟩:=SymF.fg hS hF
 clear hF
 refine wp_cond_false (hK.ew 20) (wp_skip ?_)
 refine then_n (wp_seq ?_)
 refine wq hS hG hK (fun p6=>[.v 22 (pT (p1 0).N 0),.l 23 (.bool true) 0 0]) (fun p6=>[(1,pT (p1 0).N 0),(2,.string { data:=#[] }),(3,.int .i64 0),(4,.int .i64 0),(5,.string t),(6,.int .i64 0),(23,.bool true)]) (fun p6=>?_) (fun p6 W6 T hF hK=>?_)
 ·refine okv ?_
  refine okl ?_
  exact ok_nil
 obtain ⟨hS,hG⟩:=SymF.fg hS hF
 clear hF
 refine wp_cond_true (hK.ew 23) ?_
 refine wg hS hG hK (fun p7=>[.v 24 (.string t),.v 25 (.string (⟨#[45]⟩ ++ t)),.v 5 (.string (⟨#[45]⟩ ++ t))]) (fun p7=>[(1,pT (p1 0).N 0),(2,.string { data:=#[] }),(3,.int .i64 0),(4,.int .i64 0),(5,.string (⟨#[45]⟩ ++ t)),(6,.int .i64 0)]) (fun p7=>?_) (fun p7 W7 T hF hK=>?_)
 ·refine okv ?_
  refine ok_vr (script_cat (by have:(⟨#[45]⟩:ByteArray).size = 1:=rfl; omega)) (by kernel_rfl) ?_
  refine okv ?_
  exact ok_nil
 obtain ⟨hS,hG⟩:=SymF.fg hS hF
 clear hF
 refine then_n (wp_seq ?_)
 refine wq hS hG hK (fun p8=>[.v 26 (pT (p1 0).N 2),.l 27 (.agg #[.slice b k l]) 0 2,.c (some 28) (cV (.bool false))]) (fun p8=>[(1,pT (p1 0).N 0),(2,.string { data:=#[] }),(3,.int .i64 0),(4,.int .i64 0),(5,.string (⟨#[45]⟩ ++ t)),(6,.int .i64 0),(28,.bool false)]) (fun p8=>?_) (fun p8 W8 T hF hK=>?_)
 ·refine okv ?_
  refine okl ?_
  refine okc (fun W cx=>as_v ((zone_any b k l y _ (cx.G.2.1)).mono fun _ _ h9=>⟨by rw [h9.1,ho],h9.2⟩)) ?_
  exact ok_nil
 obtain ⟨hS,hG⟩:=SymF.fg hS hF
 clear hF
 refine wp_cond_false (hK.ew 28) (wp_skip (then_n ?_))
 refine wq hS hG hK (fun p9=>[.v 31 (pT (p1 0).N 2),.l 32 (.agg #[.slice b k l]) 0 2,.c (some 33) (cV (.tuple #[.string u,.int .i64 0])),.v 30 (.tuple #[.string u,.int .i64 0]),.v 34 (.string u),.v 35 (.int .i64 0),.v 7 (.string u),.v 6 (.int .i64 0)]) (fun p9=>[(2,.string { data:=#[] }),(3,.int .i64 0),(4,.int .i64 0),(5,.string (⟨#[45]⟩ ++ t)),(6,.int .i64 0),(7,.string u)]) (fun p9=>?_) (fun p9 W9 T hF hK=>?_)
 ·refine okv ?_
  refine okl ?_
  refine okc (fun W cx=>as_v (unhide T2 _ (cx.G.2.1))) ?_
  iterate 5 refine okv ?_
  exact ok_nil
 obtain ⟨hS,hG⟩:=SymF.fg hS hF
 clear hF
 refine wp_seq ?_
 refine wq hS hG hK (fun p10=>[.v 36 (.int .i64 0),.v 37 (.bool false)]) (fun p10=>[(2,.string { data:=#[] }),(3,.int .i64 0),(4,.int .i64 0),(5,.string (⟨#[45]⟩ ++ t)),(6,.int .i64 0),(7,.string u),(37,.bool false)]) (fun p10=>?_) (fun p10 W10 T hF hK=>?_)
 ·iterate 2 refine okv ?_
  exact ok_nil
 obtain ⟨hS,hG⟩:=SymF.fg hS hF
 clear hF
 refine wp_cond_false (hK.ew 37) (wp_skip (then_n ?_))
 refine wq hS hG hK (fun p11=>[.v 39 (.string (⟨#[45]⟩ ++ t)),.v 40 (.string ((⟨#[45]⟩ ++ t) ++ ⟨#[47]⟩)),.v 41 (.string u),.v 42 (.string ((⟨#[45]⟩ ++ t) ++ ⟨#[47]⟩ ++ u)),.v 2 (.string ((⟨#[45]⟩ ++ t) ++ ⟨#[47]⟩ ++ u)),.v 3 (.int .i64 0)]) (fun p11=>[(2,.string ((⟨#[45]⟩ ++ t) ++ ⟨#[47]⟩ ++ u)),(3,.int .i64 0),(4,.int .i64 0),(5,.string (⟨#[45]⟩ ++ t)),(6,.int .i64 0)]) (fun p11=>?_) (fun p11 W11 T hF hK=>?_)
 ·refine okv ?_
  refine ok_vr (script_cat (by (try simp only [ByteArray.size_append]); have:(⟨#[45]⟩:ByteArray).size = 1:=rfl; have:(⟨#[47]⟩:ByteArray).size = 1:=rfl; omega)) (by kernel_rfl) ?_
  refine okv ?_
  refine ok_vr (script_cat (by (try simp only [ByteArray.size_append]); have:(⟨#[45]⟩:ByteArray).size = 1:=rfl; have:(⟨#[47]⟩:ByteArray).size = 1:=rfl; omega)) (by kernel_rfl) ?_
  iterate 2 refine okv ?_
  exact ok_nil
 obtain ⟨hS,hG⟩:=SymF.fg hS hF
 clear hF
 refine wp_ret ?_
 exact sym_end hS hK (.tuple #[.string ((⟨#[45]⟩ ++ t) ++ ⟨#[47]⟩ ++ u),.int .i64 0]) [] [] (by kernel_rfl) (by kernel_rfl) ⟨rfl,hS.fr⟩
theorem ztx_ft (w:World) (a b:Option Addr) (n c k l x y:Nat) (t:ByteArray) (h1:Num w a n x) (h2:Num w b k y) (ho:decide (y = 1) = true) (HC:Hid (∀ W:World,Num W a n x→Num W b k y→Calls Tryz.prog 15 #[.agg #[.bool false,.slice a n c,.slice b k l]] W fun e W'=>e = .returned (.int .i64 0)∧Below W.heap.size W W')) (T1:Hid (∀ W:World,Num W a n x→Calls Tryz.prog 18 #[.agg #[.slice a n c]] W fun e W'=>e = .returned (.tuple #[.string t,.int .i64 0])∧Below W.heap.size W W'))  :
  Calls Tryz.prog 6 #[.agg #[.bool false,.slice a n c,.slice b k l]] w fun en w'=>en = .returned (.tuple #[.string t,.int .i64 0])∧Below w.heap.size w w':=by
 refine calls_sym Tryz.func6 rfl (by kernel_rfl) fun T hK=>?_
 replace hK:Kn T _ [(0,.agg #[.bool false,.slice a n c,.slice b k l])]:=hK
 have hS:=Fb.begin w
 have hG:GsAt [gN a n x,gN b k y] w:=⟨h1,h2,trivial⟩
 refine wq hS hG hK (fun p1=>[.n 1 #[.bool false,.slice a n c,.slice b k l] 30,.v 2 (.string { data:=#[] }),.v 3 (.int .i64 0)]) (fun p1=>[(1,pT (p1 0).N 0),(2,.string { data:=#[] }),(3,.int .i64 0)]) (fun p1=>?_) (fun p1 W1 T hF hK=>?_)
 ·refine okn ?_
  iterate 2 refine okv ?_
  exact ok_nil
 replace hS:=SymF.fc hS hF [1000] [⟨(p1 0).N,#[.bool false,.slice a n c,.slice b k l],30,true⟩]
 replace hG:=hF.gx
 clear hF
 refine wp_seq ?_
 refine wq hS hG hK (fun p2=>[.l 8 (.agg #[.bool false,.slice a n c,.slice b k l]) 0 0,.c (some 9) (cV (.int .i64 0)),.v 4 (.int .i64 0)]) (fun p2=>[(1,pT (p1 0).N 0),(2,.string { data:=#[] }),(3,.int .i64 0),(4,.int .i64 0)]) (fun p2=>?_) (fun p2 W2 T hF hK=>?_)
 ·refine okl ?_
  refine okc (fun W cx=>as_v (unhide HC _ (cx.G.1) (cx.G.2.1))) ?_
  refine okv ?_
  exact ok_nil
 obtain ⟨hS,hG⟩:=SymF.fg hS hF
 clear hF
 refine wq hS hG hK (fun p3=>[.v 10 (.int .i64 0),.v 11 (.bool false)]) (fun p3=>[(1,pT (p1 0).N 0),(2,.string { data:=#[] }),(3,.int .i64 0),(4,.int .i64 0),(11,.bool false)]) (fun p3=>?_) (fun p3 W3 T hF hK=>?_)
 ·iterate 2 refine okv ?_
  exact ok_nil
 obtain ⟨hS,hG⟩:=SymF.fg hS hF
 clear hF
 refine wp_cond_false (hK.ew 11) (wp_skip (then_n ?_))
 refine wq hS hG hK (fun p4=>[.v 14 (pT (p1 0).N 1),.l 15 (.agg #[.slice a n c]) 0 1,.c (some 16) (cV (.tuple #[.string t,.int .i64 0])),.v 13 (.tuple #[.string t,.int .i64 0]),.v 17 (.string t),.v 18 (.int .i64 0),.v 5 (.string t),.v 6 (.int .i64 0)]) (fun p4=>[(1,pT (p1 0).N 0),(2,.string { data:=#[] }),(3,.int .i64 0),(4,.int .i64 0),(5,.string t),(6,.int .i64 0)]) (fun p4=>?_) (fun p4 W4 T hF hK=>?_)
 ·refine okv ?_
  refine okl ?_
  refine okc (fun W cx=>as_v (unhide T1 _ (cx.G.1))) ?_
  iterate 5 refine okv ?_
  exact ok_nil
 obtain ⟨hS,hG⟩:=SymF.fg hS hF
 clear hF
 refine wp_seq ?_
 refine wq hS hG hK (fun p5=>[.v 19 (.int .i64 0),.v 20 (.bool false)]) (fun p5=>[(1,pT (p1 0).N 0),(2,.string { data:=#[] }),(3,.int .i64 0),(4,.int .i64 0),(5,.string t),(6,.int .i64 0),(20,.bool false)]) (fun p5=>?_) (fun p5 W5 T hF hK=>?_)
 ·iterate 2 refine okv ?_
  exact ok_nil
 obtain ⟨hS,hG⟩:=SymF.fg hS hF
 clear hF
 refine wp_cond_false (hK.ew 20) (wp_skip ?_)
 refine then_n (wp_seq ?_)
 refine wq hS hG hK (fun p6=>[.v 22 (pT (p1 0).N 0),.l 23 (.bool false) 0 0]) (fun p6=>[(1,pT (p1 0).N 0),(2,.string { data:=#[] }),(3,.int .i64 0),(4,.int .i64 0),(5,.string t),(6,.int .i64 0),(23,.bool false)]) (fun p6=>?_) (fun p6 W6 T hF hK=>?_)
 ·refine okv ?_
  refine okl ?_
  exact ok_nil
 obtain ⟨hS,hG⟩:=SymF.fg hS hF
 clear hF
 refine wp_cond_false (hK.ew 23) (wp_skip ?_)
 refine then_n (wp_seq ?_)
 refine wq hS hG hK (fun p7=>[.v 26 (pT (p1 0).N 2),.l 27 (.agg #[.slice b k l]) 0 2,.c (some 28) (cV (.bool true))]) (fun p7=>[(1,pT (p1 0).N 0),(2,.string { data:=#[] }),(3,.int .i64 0),(4,.int .i64 0),(5,.string t),(6,.int .i64 0),(28,.bool true)]) (fun p7=>?_) (fun p7 W7 T hF hK=>?_)
 ·refine okv ?_
  refine okl ?_
  refine okc (fun W cx=>as_v ((zone_any b k l y _ (cx.G.2.1)).mono fun _ _ h9=>⟨by rw [h9.1,ho],h9.2⟩)) ?_
  exact ok_nil
 obtain ⟨hS,hG⟩:=SymF.fg hS hF
 clear hF
 refine wp_cond_true (hK.ew 28) ?_
 refine wq hS hG hK (fun p8=>[.v 29 (.string t),.v 2 (.string t),.v 3 (.int .i64 0)]) (fun p8=>[(1,pT (p1 0).N 0),(2,.string t),(3,.int .i64 0),(4,.int .i64 0),(5,.string t),(6,.int .i64 0)]) (fun p8=>?_) (fun p8 W8 T hF hK=>?_)
 ·iterate 3 refine okv ?_
  exact ok_nil
 obtain ⟨hS,hG⟩:=SymF.fg hS hF
 clear hF
 refine wp_ret ?_
 refine then_r ?_
 exact sym_end hS hK (.tuple #[.string t,.int .i64 0]) [] [] (by kernel_rfl) (by kernel_rfl) ⟨rfl,hS.fr⟩
theorem ztx_ff (w:World) (a b:Option Addr) (n c k l x y:Nat) (t u:ByteArray) (h1:Num w a n x) (h2:Num w b k y) (ho:decide (y = 1) = false) (HC:Hid (∀ W:World,Num W a n x→Num W b k y→Calls Tryz.prog 15 #[.agg #[.bool false,.slice a n c,.slice b k l]] W fun e W'=>e = .returned (.int .i64 0)∧Below W.heap.size W W')) (T1:Hid (∀ W:World,Num W a n x→Calls Tryz.prog 18 #[.agg #[.slice a n c]] W fun e W'=>e = .returned (.tuple #[.string t,.int .i64 0])∧Below W.heap.size W W')) (T2:Hid (∀ W:World,Num W b k y→Calls Tryz.prog 18 #[.agg #[.slice b k l]] W fun e W'=>e = .returned (.tuple #[.string u,.int .i64 0])∧Below W.heap.size W W')) (ht:t.size≤4000000000) (hu:u.size≤4000000000)  :
  Calls Tryz.prog 6 #[.agg #[.bool false,.slice a n c,.slice b k l]] w fun en w'=>en = .returned (.tuple #[.string (t ++ ⟨#[47]⟩ ++ u),.int .i64 0])∧Below w.heap.size w w':=by
 refine calls_sym Tryz.func6 rfl (by kernel_rfl) fun T hK=>?_
 replace hK:Kn T _ [(0,.agg #[.bool false,.slice a n c,.slice b k l])]:=hK
 have hS:=Fb.begin w
 have hG:GsAt [gN a n x,gN b k y] w:=⟨h1,h2,trivial⟩
 refine wq hS hG hK (fun p1=>[.n 1 #[.bool false,.slice a n c,.slice b k l] 30,.v 2 (.string { data:=#[] }),.v 3 (.int .i64 0)]) (fun p1=>[(1,pT (p1 0).N 0),(2,.string { data:=#[] }),(3,.int .i64 0)]) (fun p1=>?_) (fun p1 W1 T hF hK=>?_)
 ·refine okn ?_
  iterate 2 refine okv ?_
  exact ok_nil
 replace hS:=SymF.fc hS hF [1000] [⟨(p1 0).N,#[.bool false,.slice a n c,.slice b k l],30,true⟩]
 replace hG:=hF.gx
 clear hF
 refine wp_seq ?_
 refine wq hS hG hK (fun p2=>[.l 8 (.agg #[.bool false,.slice a n c,.slice b k l]) 0 0,.c (some 9) (cV (.int .i64 0)),.v 4 (.int .i64 0)]) (fun p2=>[(1,pT (p1 0).N 0),(2,.string { data:=#[] }),(3,.int .i64 0),(4,.int .i64 0)]) (fun p2=>?_) (fun p2 W2 T hF hK=>?_)
 ·refine okl ?_
  refine okc (fun W cx=>as_v (unhide HC _ (cx.G.1) (cx.G.2.1))) ?_
  refine okv ?_
  exact ok_nil
 obtain ⟨hS,hG⟩:=SymF.fg hS hF
 clear hF
 refine wq hS hG hK (fun p3=>[.v 10 (.int .i64 0),.v 11 (.bool false)]) (fun p3=>[(1,pT (p1 0).N 0),(2,.string { data:=#[] }),(3,.int .i64 0),(4,.int .i64 0),(11,.bool false)]) (fun p3=>?_) (fun p3 W3 T hF hK=>?_)
 ·iterate 2 refine okv ?_
  exact ok_nil
 obtain ⟨hS,hG⟩:=SymF.fg hS hF
 clear hF
 refine wp_cond_false (hK.ew 11) (wp_skip (then_n ?_))
 refine wq hS hG hK (fun p4=>[.v 14 (pT (p1 0).N 1),.l 15 (.agg #[.slice a n c]) 0 1,.c (some 16) (cV (.tuple #[.string t,.int .i64 0])),.v 13 (.tuple #[.string t,.int .i64 0]),.v 17 (.string t),.v 18 (.int .i64 0),.v 5 (.string t),.v 6 (.int .i64 0)]) (fun p4=>[(1,pT (p1 0).N 0),(2,.string { data:=#[] }),(3,.int .i64 0),(4,.int .i64 0),(5,.string t),(6,.int .i64 0)]) (fun p4=>?_) (fun p4 W4 T hF hK=>?_)
 ·refine okv ?_
  refine okl ?_
  refine okc (fun W cx=>as_v (unhide T1 _ (cx.G.1))) ?_
  iterate 5 refine okv ?_
  exact ok_nil
 obtain ⟨hS,hG⟩:=SymF.fg hS hF
 clear hF
 refine wp_seq ?_
 refine wq hS hG hK (fun p5=>[.v 19 (.int .i64 0),.v 20 (.bool false)]) (fun p5=>[(1,pT (p1 0).N 0),(2,.string { data:=#[] }),(3,.int .i64 0),(4,.int .i64 0),(5,.string t),(6,.int .i64 0),(20,.bool false)]) (fun p5=>?_) (fun p5 W5 T hF hK=>?_)
 ·iterate 2 refine okv ?_
  exact ok_nil
 obtain ⟨hS,hG⟩:=SymF.fg hS hF
 clear hF
 refine wp_cond_false (hK.ew 20) (wp_skip ?_)
 refine then_n (wp_seq ?_)
 refine wq hS hG hK (fun p6=>[.v 22 (pT (p1 0).N 0),.l 23 (.bool false) 0 0]) (fun p6=>[(1,pT (p1 0).N 0),(2,.string { data:=#[] }),(3,.int .i64 0),(4,.int .i64 0),(5,.string t),(6,.int .i64 0),(23,.bool false)]) (fun p6=>?_) (fun p6 W6 T hF hK=>?_)
 ·refine okv ?_
  refine okl ?_
  exact ok_nil
 obtain ⟨hS,hG⟩:=SymF.fg hS hF
 clear hF
 refine wp_cond_false (hK.ew 23) (wp_skip ?_)
 refine then_n (wp_seq ?_)
 refine wq hS hG hK (fun p7=>[.v 26 (pT (p1 0).N 2),.l 27 (.agg #[.slice b k l]) 0 2,.c (some 28) (cV (.bool false))]) (fun p7=>[(1,pT (p1 0).N 0),(2,.string { data:=#[] }),(3,.int .i64 0),(4,.int .i64 0),(5,.string t),(6,.int .i64 0),(28,.bool false)]) (fun p7=>?_) (fun p7 W7 T hF hK=>?_)
 ·refine okv ?_
  refine okl ?_
  refine okc (fun W cx=>as_v ((zone_any b k l y _ (cx.G.2.1)).mono fun _ _ h9=>⟨by rw [h9.1,ho],h9.2⟩)) ?_
  exact ok_nil
 obtain ⟨hS,hG⟩:=SymF.fg hS hF
 clear hF
 refine wp_cond_false (hK.ew 28) (wp_skip (then_n ?_))
 refine wq hS hG hK (fun p8=>[.v 31 (pT (p1 0).N 2),.l 32 (.agg #[.slice b k l]) 0 2,.c (some 33) (cV (.tuple #[.string u,.int .i64 0])),.v 30 (.tuple #[.string u,.int .i64 0]),.v 34 (.string u),.v 35 (.int .i64 0),.v 7 (.string u),.v 6 (.int .i64 0)]) (fun p8=>[(2,.string { data:=#[] }),(3,.int .i64 0),(4,.int .i64 0),(5,.string t),(6,.int .i64 0),(7,.string u)]) (fun p8=>?_) (fun p8 W8 T hF hK=>?_)
 ·refine okv ?_
  refine okl ?_
  refine okc (fun W cx=>as_v (unhide T2 _ (cx.G.2.1))) ?_
  iterate 5 refine okv ?_
  exact ok_nil
 obtain ⟨hS,hG⟩:=SymF.fg hS hF
 clear hF
 refine wp_seq ?_
 refine wq hS hG hK (fun p9=>[.v 36 (.int .i64 0),.v 37 (.bool false)]) (fun p9=>[(2,.string { data:=#[] }),(3,.int .i64 0),(4,.int .i64 0),(5,.string t),(6,.int .i64 0),(7,.string u),(37,.bool false)]) (fun p9=>?_) (fun p9 W9 T hF hK=>?_)
 ·iterate 2 refine okv ?_
  exact ok_nil
 obtain ⟨hS,hG⟩:=SymF.fg hS hF
 clear hF
 refine wp_cond_false (hK.ew 37) (wp_skip (then_n ?_))
 refine wq hS hG hK (fun p10=>[.v 39 (.string t),.v 40 (.string (t ++ ⟨#[47]⟩)),.v 41 (.string u),.v 42 (.string (t ++ ⟨#[47]⟩ ++ u)),.v 2 (.string (t ++ ⟨#[47]⟩ ++ u)),.v 3 (.int .i64 0)]) (fun p10=>[(2,.string (t ++ ⟨#[47]⟩ ++ u)),(3,.int .i64 0),(4,.int .i64 0),(5,.string t),(6,.int .i64 0)]) (fun p10=>?_) (fun p10 W10 T hF hK=>?_)
 ·refine okv ?_
  refine ok_vr (script_cat (by (try simp only [ByteArray.size_append]); have:(⟨#[45]⟩:ByteArray).size = 1:=rfl; have:(⟨#[47]⟩:ByteArray).size = 1:=rfl; omega)) (by kernel_rfl) ?_
  refine okv ?_
  refine ok_vr (script_cat (by (try simp only [ByteArray.size_append]); have:(⟨#[45]⟩:ByteArray).size = 1:=rfl; have:(⟨#[47]⟩:ByteArray).size = 1:=rfl; omega)) (by kernel_rfl) ?_
  iterate 2 refine okv ?_
  exact ok_nil
 obtain ⟨hS,hG⟩:=SymF.fg hS hF
 clear hF
 refine wp_ret ?_
 exact sym_end hS hK (.tuple #[.string (t ++ ⟨#[47]⟩ ++ u),.int .i64 0]) [] [] (by kernel_rfl) (by kernel_rfl) ⟨rfl,hS.fr⟩
theorem zpar_t (w:World) (S d t u:ByteArray) (s g:Bool) (x y z dn:Nat) (hSz:S.size≤65536) (HP:Hid (∀ W:World,Calls Tryz.prog 20 #[.string S,.string ⟨#[45]⟩] W fun e W'=>e = .returned (.tuple #[.string d,.bool s])∧Below W.heap.size W W')) (HT:Hid (∀ W:World,Calls Tryz.prog 21 #[.string d,.string ⟨#[47]⟩] W fun e W'=>e = .returned (.tuple #[.string t,.string u,.bool true])∧Below W.heap.size W W')) (H1:Hid (∀ W:World,Calls Tryz.prog 22 #[.string t] W fun en W'=>(∃ A N C,en = .returned (.tuple #[.agg #[.slice A N C],.int .i64 0,.int .i64 0])∧Mine W' W.heap.size A N C x)∧Below W.heap.size W W')) (H2:Hid (∀ W:World,Calls Tryz.prog 22 #[.string u] W fun en W'=>(∃ A N C,en = .returned (.tuple #[.agg #[.slice A N C],.int .i64 0,.int .i64 0])∧Mine W' W.heap.size A N C y)∧Below W.heap.size W W')) (HM:Hid (∀ (W:World) (a:Option Addr) (n c:Nat) (b:Option Addr) (k l:Nat),Num W a n x→Num W b k y→Calls Tryz.prog 17 #[.bool s,.agg #[.slice a n c],.agg #[.slice b k l]] W fun en W'=>(∃ A N C A' N' C',en = .returned (.tuple #[.agg #[.bool g,.slice A N C,.slice A' N' C'],.int .i64 0])∧Mine W' W.heap.size A N C z∧Mine W' W.heap.size A' N' C' dn)∧Below W.heap.size W W'))  :
  Calls Tryz.prog 7 #[.string S] w fun en w'=>(∃ A N C A' N' C',en = .returned (.tuple #[.agg #[.bool g,.slice A N C,.slice A' N' C'],.int .i64 0,.int .i64 0])∧Mine w' w.heap.size A N C z∧Mine w' w.heap.size A' N' C' dn)∧Below w.heap.size w w':=by
 refine calls_sym Tryz.func7 rfl (by kernel_rfl) fun T hK=>?_
 replace hK:Kn T _ [(0,.string S)]:=hK
 have hS:=Fb.begin w
 have hG:GsAt [] w:=trivial
 refine wq hS hG hK (fun p1=>[.n 2 #[.bool false,.slice none 0 0,.slice none 0 0] 30,.v 3 (.int .i64 0),.v 4 (.int .i64 0)]) (fun p1=>[(0,.string S),(2,pT (p1 0).N 0),(3,.int .i64 0),(4,.int .i64 0)]) (fun p1=>?_) (fun p1 W1 T hF hK=>?_)
 ·refine okn ?_
  iterate 2 refine okv ?_
  exact ok_nil
 replace hS:=SymF.fc hS hF [1000] [⟨(p1 0).N,#[.bool false,.slice none 0 0,.slice none 0 0],30,true⟩]
 replace hG:=hF.gx
 clear hF
 refine wp_seq ?_
 refine wq hS hG hK (fun p2=>[.v 16 (.string S),.v 17 (.int .i64 (S.size:Int)),.v 18 (.bool false)]) (fun p2=>[(0,.string S),(2,pT (p1 0).N 0),(3,.int .i64 0),(4,.int .i64 0),(18,.bool false)]) (fun p2=>?_) (fun p2 W2 T hF hK=>?_)
 ·iterate 2 refine okv ?_
  refine okvb (decide_eq_false (show ¬ (S.size:Int) > 65536 by omega)) ?_
  exact ok_nil
 obtain ⟨hS,hG⟩:=SymF.fg hS hF
 clear hF
 refine wp_cond_false (hK.ew 18) (wp_skip (then_n ?_))
 refine wq hS hG hK (fun p3=>[.v 21 (.string S),.c (some 22) (cV (.tuple #[.string d,.bool s])),.v 20 (.tuple #[.string d,.bool s]),.v 23 (.string d),.v 24 (.bool s),.v 5 (.string d),.v 6 (.bool s)]) (fun p3=>[(0,.string S),(2,pT (p1 0).N 0),(3,.int .i64 0),(4,.int .i64 0),(5,.string d),(6,.bool s)]) (fun p3=>?_) (fun p3 W3 T hF hK=>?_)
 ·refine okv ?_
  refine okc (fun W cx=>as_v (unhide HP _)) ?_
  iterate 5 refine okv ?_
  exact ok_nil
 obtain ⟨hS,hG⟩:=SymF.fg hS hF
 clear hF
 refine wq hS hG hK (fun p4=>[.v 26 (.string d),.c (some 27) (cV (.tuple #[.string t,.string u,.bool true])),.v 25 (.tuple #[.string t,.string u,.bool true]),.v 28 (.string t),.v 29 (.string u),.v 30 (.bool true),.v 7 (.string t),.v 8 (.string u),.v 9 (.bool true)]) (fun p4=>[(0,.string S),(2,pT (p1 0).N 0),(3,.int .i64 0),(4,.int .i64 0),(5,.string d),(6,.bool s),(7,.string t),(8,.string u),(9,.bool true)]) (fun p4=>?_) (fun p4 W4 T hF hK=>?_)
 ·refine okv ?_
  refine okc (fun W cx=>as_v (unhide HT _)) ?_
  iterate 7 refine okv ?_
  exact ok_nil
 obtain ⟨hS,hG⟩:=SymF.fg hS hF
 clear hF
 refine wq hS hG hK (fun p5=>[.v 31 (.string S),.v 32 (.int .i64 (S.size:Int)),.v 33 (.string d),.v 34 (.int .i64 (d.size:Int)),.v 35 (.int .i64 (IntKind.i64.wrap ((S.size:Int) - (d.size:Int)))),.v 10 (.int .i64 (IntKind.i64.wrap ((S.size:Int) - (d.size:Int))))]) (fun p5=>[(2,pT (p1 0).N 0),(3,.int .i64 0),(4,.int .i64 0),(6,.bool s),(7,.string t),(8,.string u),(9,.bool true),(10,.int .i64 (IntKind.i64.wrap ((S.size:Int) - (d.size:Int))))]) (fun p5=>?_) (fun p5 W5 T hF hK=>?_)
 ·iterate 6 refine okv ?_
  exact ok_nil
 obtain ⟨hS,hG⟩:=SymF.fg hS hF
 clear hF
 refine wq hS hG hK (fun p6=>[.v 37 (.string t),.c (some 38) (cG W5.heap.size x fun x9=>.tuple #[.agg #[x9],.int .i64 0,.int .i64 0]),.v 36 (.tuple #[.agg #[.slice (p6 1).A (p6 1).N (p6 1).C],.int .i64 0,.int .i64 0]),.v 39 (.agg #[.slice (p6 1).A (p6 1).N (p6 1).C]),.v 40 (.int .i64 0),.v 41 (.int .i64 0),.n 11 #[.slice none 0 0] 28,.p 1006 0 [.slice (p6 1).A (p6 1).N (p6 1).C],.v 12 (.int .i64 0),.v 13 (.int .i64 0)]) (fun p6=>[(2,pT (p1 0).N 0),(3,.int .i64 0),(4,.int .i64 0),(6,.bool s),(7,.string t),(8,.string u),(9,.bool true),(10,.int .i64 (IntKind.i64.wrap ((S.size:Int) - (d.size:Int)))),(11,pT (p6 6).N 0),(12,.int .i64 0),(13,.int .i64 0)]) (fun p6=>?_) (fun p6 W6 T hF hK=>?_)
 ·refine okv ?_
  refine okc (fun W cx=>as_g cx.hb (unhide H1 _)) ?_
  iterate 4 refine okv ?_
  refine okn ?_
  refine okp ?_
  iterate 2 refine okv ?_
  exact ok_nil
 replace hS:=SymF.fc hS hF [0,1006] [⟨(p1 0).N,#[.bool false,.slice none 0 0,.slice none 0 0],30,true⟩,⟨(p6 6).N,#[.slice (p6 1).A (p6 1).N (p6 1).C],28,true⟩]
 replace hG:GsAt (gM W5.heap.size (p6 1).A (p6 1).N (p6 1).C x :: _) W6:=⟨hF.fx 1,hF.gx⟩
 clear hF
 refine wp_seq ?_
 refine wq hS hG hK (fun p7=>[.v 42 (.int .i64 0),.v 43 (.bool false)]) (fun p7=>[(2,pT (p1 0).N 0),(3,.int .i64 0),(4,.int .i64 0),(6,.bool s),(7,.string t),(8,.string u),(9,.bool true),(10,.int .i64 (IntKind.i64.wrap ((S.size:Int) - (d.size:Int)))),(11,pT (p6 6).N 0),(12,.int .i64 0),(13,.int .i64 0),(43,.bool false)]) (fun p7=>?_) (fun p7 W7 T hF hK=>?_)
 ·iterate 2 refine okv ?_
  exact ok_nil
 obtain ⟨hS,hG⟩:=SymF.fg hS hF
 clear hF
 refine wp_cond_false (hK.ew 43) (wp_skip (then_n ?_))
 refine wq hS hG hK (fun p8=>[.c (some 49) (cN W7.heap.size 1),.n 14 #[.slice none 0 0] 28,.p 1001 0 [.slice (p8 0).A (p8 0).N (p8 0).C]]) (fun p8=>[(2,pT (p1 0).N 0),(3,.int .i64 0),(4,.int .i64 0),(6,.bool s),(7,.string t),(8,.string u),(9,.bool true),(10,.int .i64 (IntKind.i64.wrap ((S.size:Int) - (d.size:Int)))),(11,pT (p6 6).N 0),(12,.int .i64 0),(13,.int .i64 0),(14,pT (p8 1).N 0)]) (fun p8=>?_) (fun p8 W8 T hF hK=>?_)
 ·refine okc (fun W cx=>as_n cx.hb (of_any 1 _ (by decide))) ?_
  refine okn ?_
  refine okp ?_
  exact ok_nil
 replace hS:=SymF.fc hS hF [0,1,1001] [⟨(p1 0).N,#[.bool false,.slice none 0 0,.slice none 0 0],30,true⟩,⟨(p6 6).N,#[.slice (p6 1).A (p6 1).N (p6 1).C],28,true⟩,⟨(p8 1).N,#[.slice (p8 0).A (p8 0).N (p8 0).C],28,true⟩]
 replace hG:GsAt (gM W7.heap.size (p8 0).A (p8 0).N (p8 0).C 1 :: _) W8:=⟨hF.fx 0,hF.gx⟩
 clear hF
 refine wp_seq ?_
 refine wq hS hG hK (fun p9=>[.v 50 (.bool true)]) (fun p9=>[(2,pT (p1 0).N 0),(3,.int .i64 0),(4,.int .i64 0),(6,.bool s),(7,.string t),(8,.string u),(10,.int .i64 (IntKind.i64.wrap ((S.size:Int) - (d.size:Int)))),(11,pT (p6 6).N 0),(12,.int .i64 0),(13,.int .i64 0),(14,pT (p8 1).N 0),(50,.bool true)]) (fun p9=>?_) (fun p9 W9 T hF hK=>?_)
 ·refine okv ?_
  exact ok_nil
 obtain ⟨hS,hG⟩:=SymF.fg hS hF
 clear hF
 refine wp_cond_true (hK.ew 50) ?_
 refine wq hS hG hK (fun p10=>[.v 51 (.int .i64 (IntKind.i64.wrap ((S.size:Int) - (d.size:Int)))),.v 52 (.string t),.v 53 (.int .i64 (t.size:Int)),.v 54 (.int .i64 (IntKind.i64.wrap ((t.size:Int)+1))),.v 55 (.int .i64 (IntKind.i64.wrap (IntKind.i64.wrap ((S.size:Int) - (d.size:Int))+IntKind.i64.wrap ((t.size:Int)+1)))),.v 10 (.int .i64 (IntKind.i64.wrap (IntKind.i64.wrap ((S.size:Int) - (d.size:Int))+IntKind.i64.wrap ((t.size:Int)+1))))]) (fun p10=>[(2,pT (p1 0).N 0),(3,.int .i64 0),(4,.int .i64 0),(6,.bool s),(8,.string u),(10,.int .i64 (IntKind.i64.wrap (IntKind.i64.wrap ((S.size:Int) - (d.size:Int))+IntKind.i64.wrap ((t.size:Int)+1)))),(11,pT (p6 6).N 0),(12,.int .i64 0),(13,.int .i64 0),(14,pT (p8 1).N 0)]) (fun p10=>?_) (fun p10 W10 T hF hK=>?_)
 ·iterate 6 refine okv ?_
  exact ok_nil
 obtain ⟨hS,hG⟩:=SymF.fg hS hF
 clear hF
 refine wq hS hG hK (fun p11=>[.v 57 (.string u),.c (some 58) (cG W10.heap.size y fun x9=>.tuple #[.agg #[x9],.int .i64 0,.int .i64 0]),.v 56 (.tuple #[.agg #[.slice (p11 1).A (p11 1).N (p11 1).C],.int .i64 0,.int .i64 0]),.v 59 (.agg #[.slice (p11 1).A (p11 1).N (p11 1).C]),.v 60 (.int .i64 0),.v 61 (.int .i64 0),.p 2 0 [.slice (p11 1).A (p11 1).N (p11 1).C],.v 12 (.int .i64 0),.v 13 (.int .i64 0)]) (fun p11=>[(2,pT (p1 0).N 0),(3,.int .i64 0),(4,.int .i64 0),(6,.bool s),(10,.int .i64 (IntKind.i64.wrap (IntKind.i64.wrap ((S.size:Int) - (d.size:Int))+IntKind.i64.wrap ((t.size:Int)+1)))),(11,pT (p6 6).N 0),(12,.int .i64 0),(13,.int .i64 0),(14,pT (p8 1).N 0)]) (fun p11=>?_) (fun p11 W11 T hF hK=>?_)
 ·refine okv ?_
  refine okc (fun W cx=>as_g cx.hb (unhide H2 _)) ?_
  iterate 4 refine okv ?_
  refine okp ?_
  iterate 2 refine okv ?_
  exact ok_nil
 replace hS:=SymF.fc hS hF [0,1,2] [⟨(p1 0).N,#[.bool false,.slice none 0 0,.slice none 0 0],30,true⟩,⟨(p6 6).N,#[.slice (p6 1).A (p6 1).N (p6 1).C],28,true⟩,⟨(p8 1).N,#[.slice (p11 1).A (p11 1).N (p11 1).C],28,true⟩]
 replace hG:GsAt (gM W10.heap.size (p11 1).A (p11 1).N (p11 1).C y :: _) W11:=⟨hF.fx 1,hF.gx⟩
 clear hF
 refine wq hS hG hK (fun p12=>[.v 62 (.int .i64 0),.v 63 (.bool false)]) (fun p12=>[(2,pT (p1 0).N 0),(3,.int .i64 0),(4,.int .i64 0),(6,.bool s),(10,.int .i64 (IntKind.i64.wrap (IntKind.i64.wrap ((S.size:Int) - (d.size:Int))+IntKind.i64.wrap ((t.size:Int)+1)))),(11,pT (p6 6).N 0),(12,.int .i64 0),(13,.int .i64 0),(14,pT (p8 1).N 0),(63,.bool false)]) (fun p12=>?_) (fun p12 W12 T hF hK=>?_)
 ·iterate 2 refine okv ?_
  exact ok_nil
 obtain ⟨hS,hG⟩:=SymF.fg hS hF
 clear hF
 have z12:=hS.fr.size
 refine wp_cond_false (hK.ew 63) (wp_skip (then_n ?_))
 refine wq hS hG hK (fun p13=>[.v 70 (.bool s),.l 71 (.agg #[.slice (p6 1).A (p6 1).N (p6 1).C]) 1 0,.l 72 (.agg #[.slice (p11 1).A (p11 1).N (p11 1).C]) 2 0,.c (some 73) (cH W12.heap.size z dn fun x9 y9=>.tuple #[.agg #[.bool g,x9,y9],.int .i64 0]),.v 69 (.tuple #[.agg #[.bool g,.slice (p13 3).A (p13 3).N (p13 3).C,.slice (p13 3).A' (p13 3).N' (p13 3).C'],.int .i64 0]),.v 74 (.agg #[.bool g,.slice (p13 3).A (p13 3).N (p13 3).C,.slice (p13 3).A' (p13 3).N' (p13 3).C']),.v 75 (.int .i64 0),.n 15 #[.bool false,.slice none 0 0,.slice none 0 0] 30,.p 1007 0 [.bool g,.slice (p13 3).A (p13 3).N (p13 3).C,.slice (p13 3).A' (p13 3).N' (p13 3).C'],.v 13 (.int .i64 0)]) (fun p13=>[(2,pT (p1 0).N 0),(3,.int .i64 0),(4,.int .i64 0),(10,.int .i64 (IntKind.i64.wrap (IntKind.i64.wrap ((S.size:Int) - (d.size:Int))+IntKind.i64.wrap ((t.size:Int)+1)))),(12,.int .i64 0),(13,.int .i64 0),(15,pT (p13 7).N 0)]) (fun p13=>?_) (fun p13 W13 T hF hK=>?_)
 ·refine okv ?_
  iterate 2 refine okl ?_
  refine okc (fun W cx=>as_h cx.hb (unhide HM _ _ _ (p6 1).C _ _ (p11 1).C (Mine.num cx.G.2.2.1) (Mine.num cx.G.1))) ?_
  iterate 3 refine okv ?_
  refine okn ?_
  refine okp ?_
  refine okv ?_
  exact ok_nil
 replace hS:=SymF.fc hS hF [0,1007] [⟨(p1 0).N,#[.bool false,.slice none 0 0,.slice none 0 0],30,true⟩,⟨(p13 7).N,#[.bool g,.slice (p13 3).A (p13 3).N (p13 3).C,.slice (p13 3).A' (p13 3).N' (p13 3).C'],30,true⟩]
 replace hG:GsAt (gM W12.heap.size (p13 3).A (p13 3).N (p13 3).C z :: gM W12.heap.size (p13 3).A' (p13 3).N' (p13 3).C' dn :: _) W13:=⟨And.left (hF.fx 3),And.right (hF.fx 3),hF.gx⟩
 clear hF
 refine wp_seq ?_
 refine wq hS hG hK (fun p14=>[.v 76 (.int .i64 0),.v 77 (.bool false)]) (fun p14=>[(2,pT (p1 0).N 0),(3,.int .i64 0),(4,.int .i64 0),(10,.int .i64 (IntKind.i64.wrap (IntKind.i64.wrap ((S.size:Int) - (d.size:Int))+IntKind.i64.wrap ((t.size:Int)+1)))),(12,.int .i64 0),(13,.int .i64 0),(15,pT (p13 7).N 0),(77,.bool false)]) (fun p14=>?_) (fun p14 W14 T hF hK=>?_)
 ·iterate 2 refine okv ?_
  exact ok_nil
 obtain ⟨hS,hG⟩:=SymF.fg hS hF
 clear hF
 refine wp_cond_false (hK.ew 77) (wp_skip (then_n ?_))
 refine wq hS hG hK (fun p15=>[.l 81 (.agg #[.bool g,.slice (p13 3).A (p13 3).N (p13 3).C,.slice (p13 3).A' (p13 3).N' (p13 3).C']) 1 0,.p 0 0 [.bool g,.slice (p13 3).A (p13 3).N (p13 3).C,.slice (p13 3).A' (p13 3).N' (p13 3).C'],.v 3 (.int .i64 0),.v 4 (.int .i64 0)]) (fun p15=>[(2,pT (p1 0).N 0),(3,.int .i64 0),(4,.int .i64 0),(10,.int .i64 (IntKind.i64.wrap (IntKind.i64.wrap ((S.size:Int) - (d.size:Int))+IntKind.i64.wrap ((t.size:Int)+1)))),(12,.int .i64 0),(13,.int .i64 0)]) (fun p15=>?_) (fun p15 W15 T hF hK=>?_)
 ·refine okl ?_
  refine okp ?_
  iterate 2 refine okv ?_
  exact ok_nil
 replace hS:=SymF.fc hS hF [0] [⟨(p1 0).N,#[.bool g,.slice (p13 3).A (p13 3).N (p13 3).C,.slice (p13 3).A' (p13 3).N' (p13 3).C'],30,true⟩]
 replace hG:=hF.gx
 clear hF
 refine wp_ret ?_
 exact sym_end hS hK (.tuple #[.agg #[.bool g,.slice (p13 3).A (p13 3).N (p13 3).C,.slice (p13 3).A' (p13 3).N' (p13 3).C'],.int .i64 0,.int .i64 0]) [(0,0,3)] [.bool g,.slice (p13 3).A (p13 3).N (p13 3).C,.slice (p13 3).A' (p13 3).N' (p13 3).C'] (by kernel_rfl) (by kernel_rfl) ⟨⟨_,_,_,_,_,_,rfl,Mine.mono hG.1 z12,Mine.mono hG.2.1 z12⟩,hS.fr⟩
theorem zpar_f (w:World) (S d t u:ByteArray) (s g:Bool) (x z dn:Nat) (hSz:S.size≤65536) (HP:Hid (∀ W:World,Calls Tryz.prog 20 #[.string S,.string ⟨#[45]⟩] W fun e W'=>e = .returned (.tuple #[.string d,.bool s])∧Below W.heap.size W W')) (HT:Hid (∀ W:World,Calls Tryz.prog 21 #[.string d,.string ⟨#[47]⟩] W fun e W'=>e = .returned (.tuple #[.string t,.string u,.bool false])∧Below W.heap.size W W')) (H1:Hid (∀ W:World,Calls Tryz.prog 22 #[.string t] W fun en W'=>(∃ A N C,en = .returned (.tuple #[.agg #[.slice A N C],.int .i64 0,.int .i64 0])∧Mine W' W.heap.size A N C x)∧Below W.heap.size W W')) (HM:Hid (∀ (W:World) (a:Option Addr) (n c:Nat) (b:Option Addr) (k l:Nat),Num W a n x→Num W b k 1→Calls Tryz.prog 17 #[.bool s,.agg #[.slice a n c],.agg #[.slice b k l]] W fun en W'=>(∃ A N C A' N' C',en = .returned (.tuple #[.agg #[.bool g,.slice A N C,.slice A' N' C'],.int .i64 0])∧Mine W' W.heap.size A N C z∧Mine W' W.heap.size A' N' C' dn)∧Below W.heap.size W W'))  :
  Calls Tryz.prog 7 #[.string S] w fun en w'=>(∃ A N C A' N' C',en = .returned (.tuple #[.agg #[.bool g,.slice A N C,.slice A' N' C'],.int .i64 0,.int .i64 0])∧Mine w' w.heap.size A N C z∧Mine w' w.heap.size A' N' C' dn)∧Below w.heap.size w w':=by
 refine calls_sym Tryz.func7 rfl (by kernel_rfl) fun T hK=>?_
 replace hK:Kn T _ [(0,.string S)]:=hK
 have hS:=Fb.begin w
 have hG:GsAt [] w:=trivial
 refine wq hS hG hK (fun p1=>[.n 2 #[.bool false,.slice none 0 0,.slice none 0 0] 30,.v 3 (.int .i64 0),.v 4 (.int .i64 0)]) (fun p1=>[(0,.string S),(2,pT (p1 0).N 0),(3,.int .i64 0),(4,.int .i64 0)]) (fun p1=>?_) (fun p1 W1 T hF hK=>?_)
 ·refine okn ?_
  iterate 2 refine okv ?_
  exact ok_nil
 replace hS:=SymF.fc hS hF [1000] [⟨(p1 0).N,#[.bool false,.slice none 0 0,.slice none 0 0],30,true⟩]
 replace hG:=hF.gx
 clear hF
 refine wp_seq ?_
 refine wq hS hG hK (fun p2=>[.v 16 (.string S),.v 17 (.int .i64 (S.size:Int)),.v 18 (.bool false)]) (fun p2=>[(0,.string S),(2,pT (p1 0).N 0),(3,.int .i64 0),(4,.int .i64 0),(18,.bool false)]) (fun p2=>?_) (fun p2 W2 T hF hK=>?_)
 ·iterate 2 refine okv ?_
  refine okvb (decide_eq_false (show ¬ (S.size:Int) > 65536 by omega)) ?_
  exact ok_nil
 obtain ⟨hS,hG⟩:=SymF.fg hS hF
 clear hF
 refine wp_cond_false (hK.ew 18) (wp_skip (then_n ?_))
 refine wq hS hG hK (fun p3=>[.v 21 (.string S),.c (some 22) (cV (.tuple #[.string d,.bool s])),.v 20 (.tuple #[.string d,.bool s]),.v 23 (.string d),.v 24 (.bool s),.v 5 (.string d),.v 6 (.bool s)]) (fun p3=>[(0,.string S),(2,pT (p1 0).N 0),(3,.int .i64 0),(4,.int .i64 0),(5,.string d),(6,.bool s)]) (fun p3=>?_) (fun p3 W3 T hF hK=>?_)
 ·refine okv ?_
  refine okc (fun W cx=>as_v (unhide HP _)) ?_
  iterate 5 refine okv ?_
  exact ok_nil
 obtain ⟨hS,hG⟩:=SymF.fg hS hF
 clear hF
 refine wq hS hG hK (fun p4=>[.v 26 (.string d),.c (some 27) (cV (.tuple #[.string t,.string u,.bool false])),.v 25 (.tuple #[.string t,.string u,.bool false]),.v 28 (.string t),.v 29 (.string u),.v 30 (.bool false),.v 7 (.string t),.v 8 (.string u),.v 9 (.bool false)]) (fun p4=>[(0,.string S),(2,pT (p1 0).N 0),(3,.int .i64 0),(4,.int .i64 0),(5,.string d),(6,.bool s),(7,.string t),(8,.string u),(9,.bool false)]) (fun p4=>?_) (fun p4 W4 T hF hK=>?_)
 ·refine okv ?_
  refine okc (fun W cx=>as_v (unhide HT _)) ?_
  iterate 7 refine okv ?_
  exact ok_nil
 obtain ⟨hS,hG⟩:=SymF.fg hS hF
 clear hF
 refine wq hS hG hK (fun p5=>[.v 31 (.string S),.v 32 (.int .i64 (S.size:Int)),.v 33 (.string d),.v 34 (.int .i64 (d.size:Int)),.v 35 (.int .i64 (IntKind.i64.wrap ((S.size:Int) - (d.size:Int)))),.v 10 (.int .i64 (IntKind.i64.wrap ((S.size:Int) - (d.size:Int))))]) (fun p5=>[(2,pT (p1 0).N 0),(3,.int .i64 0),(4,.int .i64 0),(6,.bool s),(7,.string t),(8,.string u),(9,.bool false),(10,.int .i64 (IntKind.i64.wrap ((S.size:Int) - (d.size:Int))))]) (fun p5=>?_) (fun p5 W5 T hF hK=>?_)
 ·iterate 6 refine okv ?_
  exact ok_nil
 obtain ⟨hS,hG⟩:=SymF.fg hS hF
 clear hF
 refine wq hS hG hK (fun p6=>[.v 37 (.string t),.c (some 38) (cG W5.heap.size x fun x9=>.tuple #[.agg #[x9],.int .i64 0,.int .i64 0]),.v 36 (.tuple #[.agg #[.slice (p6 1).A (p6 1).N (p6 1).C],.int .i64 0,.int .i64 0]),.v 39 (.agg #[.slice (p6 1).A (p6 1).N (p6 1).C]),.v 40 (.int .i64 0),.v 41 (.int .i64 0),.n 11 #[.slice none 0 0] 28,.p 1006 0 [.slice (p6 1).A (p6 1).N (p6 1).C],.v 12 (.int .i64 0),.v 13 (.int .i64 0)]) (fun p6=>[(2,pT (p1 0).N 0),(3,.int .i64 0),(4,.int .i64 0),(6,.bool s),(7,.string t),(8,.string u),(9,.bool false),(10,.int .i64 (IntKind.i64.wrap ((S.size:Int) - (d.size:Int)))),(11,pT (p6 6).N 0),(12,.int .i64 0),(13,.int .i64 0)]) (fun p6=>?_) (fun p6 W6 T hF hK=>?_)
 ·refine okv ?_
  refine okc (fun W cx=>as_g cx.hb (unhide H1 _)) ?_
  iterate 4 refine okv ?_
  refine okn ?_
  refine okp ?_
  iterate 2 refine okv ?_
  exact ok_nil
 replace hS:=SymF.fc hS hF [0,1006] [⟨(p1 0).N,#[.bool false,.slice none 0 0,.slice none 0 0],30,true⟩,⟨(p6 6).N,#[.slice (p6 1).A (p6 1).N (p6 1).C],28,true⟩]
 replace hG:GsAt (gM W5.heap.size (p6 1).A (p6 1).N (p6 1).C x :: _) W6:=⟨hF.fx 1,hF.gx⟩
 clear hF
 refine wp_seq ?_
 refine wq hS hG hK (fun p7=>[.v 42 (.int .i64 0),.v 43 (.bool false)]) (fun p7=>[(2,pT (p1 0).N 0),(3,.int .i64 0),(4,.int .i64 0),(6,.bool s),(7,.string t),(8,.string u),(9,.bool false),(10,.int .i64 (IntKind.i64.wrap ((S.size:Int) - (d.size:Int)))),(11,pT (p6 6).N 0),(12,.int .i64 0),(13,.int .i64 0),(43,.bool false)]) (fun p7=>?_) (fun p7 W7 T hF hK=>?_)
 ·iterate 2 refine okv ?_
  exact ok_nil
 obtain ⟨hS,hG⟩:=SymF.fg hS hF
 clear hF
 refine wp_cond_false (hK.ew 43) (wp_skip (then_n ?_))
 refine wq hS hG hK (fun p8=>[.c (some 49) (cN W7.heap.size 1),.n 14 #[.slice none 0 0] 28,.p 1001 0 [.slice (p8 0).A (p8 0).N (p8 0).C]]) (fun p8=>[(2,pT (p1 0).N 0),(3,.int .i64 0),(4,.int .i64 0),(6,.bool s),(7,.string t),(8,.string u),(9,.bool false),(10,.int .i64 (IntKind.i64.wrap ((S.size:Int) - (d.size:Int)))),(11,pT (p6 6).N 0),(12,.int .i64 0),(13,.int .i64 0),(14,pT (p8 1).N 0)]) (fun p8=>?_) (fun p8 W8 T hF hK=>?_)
 ·refine okc (fun W cx=>as_n cx.hb (of_any 1 _ (by decide))) ?_
  refine okn ?_
  refine okp ?_
  exact ok_nil
 replace hS:=SymF.fc hS hF [0,1,1001] [⟨(p1 0).N,#[.bool false,.slice none 0 0,.slice none 0 0],30,true⟩,⟨(p6 6).N,#[.slice (p6 1).A (p6 1).N (p6 1).C],28,true⟩,⟨(p8 1).N,#[.slice (p8 0).A (p8 0).N (p8 0).C],28,true⟩]
 replace hG:GsAt (gM W7.heap.size (p8 0).A (p8 0).N (p8 0).C 1 :: _) W8:=⟨hF.fx 0,hF.gx⟩
 clear hF
 refine wp_seq ?_
 refine wq hS hG hK (fun p9=>[.v 50 (.bool false)]) (fun p9=>[(2,pT (p1 0).N 0),(3,.int .i64 0),(4,.int .i64 0),(6,.bool s),(7,.string t),(8,.string u),(10,.int .i64 (IntKind.i64.wrap ((S.size:Int) - (d.size:Int)))),(11,pT (p6 6).N 0),(12,.int .i64 0),(13,.int .i64 0),(14,pT (p8 1).N 0),(50,.bool false)]) (fun p9=>?_) (fun p9 W9 T hF hK=>?_)
 ·refine okv ?_
  exact ok_nil
 obtain ⟨hS,hG⟩:=SymF.fg hS hF
 clear hF
 have z9:=hS.fr.size
 refine wp_cond_false (hK.ew 50) (wp_skip (then_n ?_))
 refine wq hS hG hK (fun p10=>[.v 70 (.bool s),.l 71 (.agg #[.slice (p6 1).A (p6 1).N (p6 1).C]) 1 0,.l 72 (.agg #[.slice (p8 0).A (p8 0).N (p8 0).C]) 2 0,.c (some 73) (cH W9.heap.size z dn fun x9 y9=>.tuple #[.agg #[.bool g,x9,y9],.int .i64 0]),.v 69 (.tuple #[.agg #[.bool g,.slice (p10 3).A (p10 3).N (p10 3).C,.slice (p10 3).A' (p10 3).N' (p10 3).C'],.int .i64 0]),.v 74 (.agg #[.bool g,.slice (p10 3).A (p10 3).N (p10 3).C,.slice (p10 3).A' (p10 3).N' (p10 3).C']),.v 75 (.int .i64 0),.n 15 #[.bool false,.slice none 0 0,.slice none 0 0] 30,.p 1007 0 [.bool g,.slice (p10 3).A (p10 3).N (p10 3).C,.slice (p10 3).A' (p10 3).N' (p10 3).C'],.v 13 (.int .i64 0)]) (fun p10=>[(2,pT (p1 0).N 0),(3,.int .i64 0),(4,.int .i64 0),(7,.string t),(8,.string u),(10,.int .i64 (IntKind.i64.wrap ((S.size:Int) - (d.size:Int)))),(12,.int .i64 0),(13,.int .i64 0),(14,pT (p8 1).N 0),(15,pT (p10 7).N 0)]) (fun p10=>?_) (fun p10 W10 T hF hK=>?_)
 ·refine okv ?_
  iterate 2 refine okl ?_
  refine okc (fun W cx=>as_h cx.hb (unhide HM _ _ _ (p6 1).C _ _ (p8 0).C (Mine.num cx.G.2.1) (Mine.num cx.G.1))) ?_
  iterate 3 refine okv ?_
  refine okn ?_
  refine okp ?_
  refine okv ?_
  exact ok_nil
 replace hS:=SymF.fc hS hF [0,2,1007] [⟨(p1 0).N,#[.bool false,.slice none 0 0,.slice none 0 0],30,true⟩,⟨(p8 1).N,#[.slice (p8 0).A (p8 0).N (p8 0).C],28,true⟩,⟨(p10 7).N,#[.bool g,.slice (p10 3).A (p10 3).N (p10 3).C,.slice (p10 3).A' (p10 3).N' (p10 3).C'],30,true⟩]
 replace hG:GsAt (gM W9.heap.size (p10 3).A (p10 3).N (p10 3).C z :: gM W9.heap.size (p10 3).A' (p10 3).N' (p10 3).C' dn :: _) W10:=⟨And.left (hF.fx 3),And.right (hF.fx 3),hF.gx⟩
 clear hF
 refine wp_seq ?_
 refine wq hS hG hK (fun p11=>[.v 76 (.int .i64 0),.v 77 (.bool false)]) (fun p11=>[(2,pT (p1 0).N 0),(3,.int .i64 0),(4,.int .i64 0),(7,.string t),(8,.string u),(10,.int .i64 (IntKind.i64.wrap ((S.size:Int) - (d.size:Int)))),(12,.int .i64 0),(13,.int .i64 0),(14,pT (p8 1).N 0),(15,pT (p10 7).N 0),(77,.bool false)]) (fun p11=>?_) (fun p11 W11 T hF hK=>?_)
 ·iterate 2 refine okv ?_
  exact ok_nil
 obtain ⟨hS,hG⟩:=SymF.fg hS hF
 clear hF
 refine wp_cond_false (hK.ew 77) (wp_skip (then_n ?_))
 refine wq hS hG hK (fun p12=>[.l 81 (.agg #[.bool g,.slice (p10 3).A (p10 3).N (p10 3).C,.slice (p10 3).A' (p10 3).N' (p10 3).C']) 2 0,.p 0 0 [.bool g,.slice (p10 3).A (p10 3).N (p10 3).C,.slice (p10 3).A' (p10 3).N' (p10 3).C'],.v 3 (.int .i64 0),.v 4 (.int .i64 0)]) (fun p12=>[(2,pT (p1 0).N 0),(3,.int .i64 0),(4,.int .i64 0),(7,.string t),(8,.string u),(10,.int .i64 (IntKind.i64.wrap ((S.size:Int) - (d.size:Int)))),(12,.int .i64 0),(13,.int .i64 0),(14,pT (p8 1).N 0)]) (fun p12=>?_) (fun p12 W12 T hF hK=>?_)
 ·refine okl ?_
  refine okp ?_
  iterate 2 refine okv ?_
  exact ok_nil
 replace hS:=SymF.fc hS hF [0,1] [⟨(p1 0).N,#[.bool g,.slice (p10 3).A (p10 3).N (p10 3).C,.slice (p10 3).A' (p10 3).N' (p10 3).C'],30,true⟩,⟨(p8 1).N,#[.slice (p8 0).A (p8 0).N (p8 0).C],28,true⟩]
 replace hG:=hF.gx
 clear hF
 refine wp_ret ?_
 exact sym_end hS hK (.tuple #[.agg #[.bool g,.slice (p10 3).A (p10 3).N (p10 3).C,.slice (p10 3).A' (p10 3).N' (p10 3).C'],.int .i64 0,.int .i64 0]) [(0,0,3)] [.bool g,.slice (p10 3).A (p10 3).N (p10 3).C,.slice (p10 3).A' (p10 3).N' (p10 3).C'] (by kernel_rfl) (by kernel_rfl) ⟨⟨_,_,_,_,_,_,rfl,Mine.mono hG.1 z9,Mine.mono hG.2.1 z9⟩,hS.fr⟩
theorem zmade_s (w:World) (s g:Bool) (a1 a2:Option Addr) (n1 n2 c1 c2 x y z dn:Nat) (hy:y≠0) (H1:Hid (∀ W:World,Below w.heap.size w W→Calls Tryz.prog 16 #[.slice a1 n1 c1] W fun en W'=>(∃ A N C,en = .returned (.agg #[.slice A N C])∧Mine W' W.heap.size A N C x)∧Below W.heap.size W W')) (H2:Hid (∀ W:World,Below w.heap.size w W→Calls Tryz.prog 16 #[.slice a2 n2 c2] W fun en W'=>(∃ A N C,en = .returned (.agg #[.slice A N C])∧Mine W' W.heap.size A N C y)∧Below W.heap.size W W')) (HM:Hid (∀ (W:World) (a:Option Addr) (n c:Nat) (b:Option Addr) (k l:Nat),Num W a n x→Num W b k y→Calls Tryz.prog 17 #[.bool s,.agg #[.slice a n c],.agg #[.slice b k l]] W fun en W'=>(∃ A N C A' N' C',en = .returned (.tuple #[.agg #[.bool g,.slice A N C,.slice A' N' C'],.int .i64 0])∧Mine W' W.heap.size A N C z∧Mine W' W.heap.size A' N' C' dn)∧Below W.heap.size W W')) (HK:Hid (∀ (W:World) (a:Option Addr) (n c:Nat) (b:Option Addr) (k l:Nat),Num W a n z→Num W b k dn→Calls Tryz.prog 15 #[.agg #[.bool g,.slice a n c,.slice b k l]] W fun en W'=>en = .returned (.int .i64 0)∧Below W.heap.size W W'))  :
  Calls Tryz.prog 5 #[.agg #[.bool s,.slice a1 n1 c1,.slice a2 n2 c2]] w fun en w'=>(∃ A N C A' N' C',en = .returned (.tuple #[.agg #[.bool g,.slice A N C,.slice A' N' C'],.bool true])∧Mine w' w.heap.size A N C z∧Mine w' w.heap.size A' N' C' dn)∧Below w.heap.size w w':=by
 refine calls_sym Tryz.func5 rfl (by kernel_rfl) fun T hK=>?_
 replace hK:Kn T _ [(0,.agg #[.bool s,.slice a1 n1 c1,.slice a2 n2 c2])]:=hK
 have hS:=Fb.begin w
 have hG:GsAt [] w:=trivial
 refine wq hS hG hK (fun p1=>[.n 1 #[.bool s,.slice a1 n1 c1,.slice a2 n2 c2] 24,.n 2 #[.bool false,.slice none 0 0,.slice none 0 0] 30,.v 3 (.bool false)]) (fun p1=>[(1,pT (p1 0).N 0),(2,pT (p1 1).N 0),(3,.bool false)]) (fun p1=>?_) (fun p1 W1 T hF hK=>?_)
 ·iterate 2 refine okn ?_
  refine okv ?_
  exact ok_nil
 replace hS:=SymF.fc hS hF [1000,1001] [⟨(p1 0).N,#[.bool s,.slice a1 n1 c1,.slice a2 n2 c2],24,true⟩,⟨(p1 1).N,#[.bool false,.slice none 0 0,.slice none 0 0],30,true⟩]
 replace hG:=hF.gx
 clear hF
 refine wq hS hG hK (fun p2=>[.v 8 (pT (p1 0).N 1),.l 9 (.slice a1 n1 c1) 0 1,.c (some 10) (cN W1.heap.size x),.n 4 #[.slice none 0 0] 28,.p 1003 0 [.slice (p2 2).A (p2 2).N (p2 2).C]]) (fun p2=>[(1,pT (p1 0).N 0),(2,pT (p1 1).N 0),(3,.bool false),(4,pT (p2 3).N 0)]) (fun p2=>?_) (fun p2 W2 T hF hK=>?_)
 ·refine okv ?_
  refine okl ?_
  refine okc (fun W cx=>as_n cx.hb (unhide H1 _ cx.fr)) ?_
  refine okn ?_
  refine okp ?_
  exact ok_nil
 replace hS:=SymF.fc hS hF [0,1,1003] [⟨(p1 0).N,#[.bool s,.slice a1 n1 c1,.slice a2 n2 c2],24,true⟩,⟨(p1 1).N,#[.bool false,.slice none 0 0,.slice none 0 0],30,true⟩,⟨(p2 3).N,#[.slice (p2 2).A (p2 2).N (p2 2).C],28,true⟩]
 replace hG:GsAt (gM W1.heap.size (p2 2).A (p2 2).N (p2 2).C x :: _) W2:=⟨hF.fx 2,hF.gx⟩
 clear hF
 refine wq hS hG hK (fun p3=>[.v 11 (pT (p1 0).N 2),.l 12 (.slice a2 n2 c2) 0 2,.c (some 13) (cN W2.heap.size y),.n 5 #[.slice none 0 0] 28,.p 1003 0 [.slice (p3 2).A (p3 2).N (p3 2).C]]) (fun p3=>[(1,pT (p1 0).N 0),(2,pT (p1 1).N 0),(3,.bool false),(4,pT (p2 3).N 0),(5,pT (p3 3).N 0)]) (fun p3=>?_) (fun p3 W3 T hF hK=>?_)
 ·refine okv ?_
  refine okl ?_
  refine okc (fun W cx=>as_n cx.hb (unhide H2 _ cx.fr)) ?_
  refine okn ?_
  refine okp ?_
  exact ok_nil
 replace hS:=SymF.fc hS hF [0,1,2,1003] [⟨(p1 0).N,#[.bool s,.slice a1 n1 c1,.slice a2 n2 c2],24,true⟩,⟨(p1 1).N,#[.bool false,.slice none 0 0,.slice none 0 0],30,true⟩,⟨(p2 3).N,#[.slice (p2 2).A (p2 2).N (p2 2).C],28,true⟩,⟨(p3 3).N,#[.slice (p3 2).A (p3 2).N (p3 2).C],28,true⟩]
 replace hG:GsAt (gM W2.heap.size (p3 2).A (p3 2).N (p3 2).C y :: _) W3:=⟨hF.fx 2,hF.gx⟩
 clear hF
 refine wp_seq ?_
 refine wq hS hG hK (fun p4=>[.v 14 (pT (p3 3).N 0),.l 15 (.slice (p3 2).A (p3 2).N (p3 2).C) 3 0,.v 16 (.int .i64 ((p3 2).N:Int)),.v 17 (.bool false)]) (fun p4=>[(1,pT (p1 0).N 0),(2,pT (p1 1).N 0),(3,.bool false),(4,pT (p2 3).N 0),(5,pT (p3 3).N 0),(17,.bool false)]) (fun p4=>?_) (fun p4 W4 T hF hK=>?_)
 ·refine okv ?_
  refine okl ?_
  refine okv ?_
  refine okvb (beq_false_of_ne (show ((p3 2).N:Int)≠0 from fun e9=>hy ((Num.zero (Mine.num hG.1)).1 (by omega)))) ?_
  exact ok_nil
 obtain ⟨hS,hG⟩:=SymF.fg hS hF
 clear hF
 have z4:=hS.fr.size
 refine wp_cond_false (hK.ew 17) (wp_skip (then_n ?_))
 refine wq hS hG hK (fun p5=>[.v 21 (pT (p1 0).N 0),.l 22 (.bool s) 0 0,.l 23 (.agg #[.slice (p2 2).A (p2 2).N (p2 2).C]) 2 0,.l 24 (.agg #[.slice (p3 2).A (p3 2).N (p3 2).C]) 3 0,.c (some 25) (cH W4.heap.size z dn fun x9 y9=>.tuple #[.agg #[.bool g,x9,y9],.int .i64 0]),.v 20 (.tuple #[.agg #[.bool g,.slice (p5 4).A (p5 4).N (p5 4).C,.slice (p5 4).A' (p5 4).N' (p5 4).C'],.int .i64 0]),.v 26 (.agg #[.bool g,.slice (p5 4).A (p5 4).N (p5 4).C,.slice (p5 4).A' (p5 4).N' (p5 4).C']),.v 27 (.int .i64 0),.n 6 #[.bool false,.slice none 0 0,.slice none 0 0] 30,.p 1008 0 [.bool g,.slice (p5 4).A (p5 4).N (p5 4).C,.slice (p5 4).A' (p5 4).N' (p5 4).C'],.v 7 (.int .i64 0)]) (fun p5=>[(2,pT (p1 1).N 0),(3,.bool false),(5,pT (p3 3).N 0),(6,pT (p5 8).N 0),(7,.int .i64 0)]) (fun p5=>?_) (fun p5 W5 T hF hK=>?_)
 ·refine okv ?_
  iterate 3 refine okl ?_
  refine okc (fun W cx=>as_h cx.hb (unhide HM _ _ _ (p2 2).C _ _ (p3 2).C (Mine.num cx.G.2.1) (Mine.num cx.G.1))) ?_
  iterate 3 refine okv ?_
  refine okn ?_
  refine okp ?_
  refine okv ?_
  exact ok_nil
 replace hS:=SymF.fc hS hF [1,3,1008] [⟨(p1 1).N,#[.bool false,.slice none 0 0,.slice none 0 0],30,true⟩,⟨(p3 3).N,#[.slice (p3 2).A (p3 2).N (p3 2).C],28,true⟩,⟨(p5 8).N,#[.bool g,.slice (p5 4).A (p5 4).N (p5 4).C,.slice (p5 4).A' (p5 4).N' (p5 4).C'],30,true⟩]
 replace hG:GsAt (gM W4.heap.size (p5 4).A (p5 4).N (p5 4).C z :: gM W4.heap.size (p5 4).A' (p5 4).N' (p5 4).C' dn :: _) W5:=⟨And.left (hF.fx 4),And.right (hF.fx 4),hF.gx⟩
 clear hF
 refine wq hS hG hK (fun p6=>[.l 28 (.agg #[.bool g,.slice (p5 4).A (p5 4).N (p5 4).C,.slice (p5 4).A' (p5 4).N' (p5 4).C']) 2 0,.v 29 (.int .i64 0),.v 30 (.bool true),.v 31 (.bool true),.l 32 (.agg #[.bool g,.slice (p5 4).A (p5 4).N (p5 4).C,.slice (p5 4).A' (p5 4).N' (p5 4).C']) 2 0,.c (some 33) (cV (.int .i64 0)),.v 34 (.bool true),.v 35 (.bool true),.p 0 0 [.bool g,.slice (p5 4).A (p5 4).N (p5 4).C,.slice (p5 4).A' (p5 4).N' (p5 4).C'],.v 3 (.bool true)]) (fun p6=>[(2,pT (p1 1).N 0),(3,.bool true),(5,pT (p3 3).N 0)]) (fun p6=>?_) (fun p6 W6 T hF hK=>?_)
 ·refine okl ?_
  iterate 3 refine okv ?_
  refine okl ?_
  refine okc (fun W cx=>as_v (unhide HK _ _ _ (p5 4).C _ _ (p5 4).C' (Mine.num cx.G.1) (Mine.num cx.G.2.1))) ?_
  iterate 2 refine okv ?_
  refine okp ?_
  refine okv ?_
  exact ok_nil
 replace hS:=SymF.fc hS hF [0,1] [⟨(p1 1).N,#[.bool g,.slice (p5 4).A (p5 4).N (p5 4).C,.slice (p5 4).A' (p5 4).N' (p5 4).C'],30,true⟩,⟨(p3 3).N,#[.slice (p3 2).A (p3 2).N (p3 2).C],28,true⟩]
 replace hG:=hF.gx
 clear hF
 refine wp_ret ?_
 exact sym_end hS hK (.tuple #[.agg #[.bool g,.slice (p5 4).A (p5 4).N (p5 4).C,.slice (p5 4).A' (p5 4).N' (p5 4).C'],.bool true]) [(0,0,3)] [.bool g,.slice (p5 4).A (p5 4).N (p5 4).C,.slice (p5 4).A' (p5 4).N' (p5 4).C'] (by kernel_rfl) (by kernel_rfl) ⟨⟨_,_,_,_,_,_,rfl,Mine.mono hG.1 z4,Mine.mono hG.2.1 z4⟩,hS.fr⟩
theorem zmade_n (w:World) (s g:Bool) (a1 a2:Option Addr) (n1 n2 c1 c2 x y z dn:Nat) (hy:y = 0) (H1:Hid (∀ W:World,Below w.heap.size w W→Calls Tryz.prog 16 #[.slice a1 n1 c1] W fun en W'=>(∃ A N C,en = .returned (.agg #[.slice A N C])∧Mine W' W.heap.size A N C x)∧Below W.heap.size W W')) (H2:Hid (∀ W:World,Below w.heap.size w W→Calls Tryz.prog 16 #[.slice a2 n2 c2] W fun en W'=>(∃ A N C,en = .returned (.agg #[.slice A N C])∧Mine W' W.heap.size A N C y)∧Below W.heap.size W W')) (HM:Hid (∀ (W:World) (a:Option Addr) (n c:Nat) (b:Option Addr) (k l:Nat),Num W a n x→Num W b k 1→Calls Tryz.prog 17 #[.bool s,.agg #[.slice a n c],.agg #[.slice b k l]] W fun en W'=>(∃ A N C A' N' C',en = .returned (.tuple #[.agg #[.bool g,.slice A N C,.slice A' N' C'],.int .i64 0])∧Mine W' W.heap.size A N C z∧Mine W' W.heap.size A' N' C' dn)∧Below W.heap.size W W')) (HK:Hid (∀ (W:World) (a:Option Addr) (n c:Nat) (b:Option Addr) (k l:Nat),Num W a n z→Num W b k dn→Calls Tryz.prog 15 #[.agg #[.bool g,.slice a n c,.slice b k l]] W fun en W'=>en = .returned (.int .i64 0)∧Below W.heap.size W W'))  :
  Calls Tryz.prog 5 #[.agg #[.bool s,.slice a1 n1 c1,.slice a2 n2 c2]] w fun en w'=>(∃ A N C A' N' C',en = .returned (.tuple #[.agg #[.bool g,.slice A N C,.slice A' N' C'],.bool true])∧Mine w' w.heap.size A N C z∧Mine w' w.heap.size A' N' C' dn)∧Below w.heap.size w w':=by
 refine calls_sym Tryz.func5 rfl (by kernel_rfl) fun T hK=>?_
 replace hK:Kn T _ [(0,.agg #[.bool s,.slice a1 n1 c1,.slice a2 n2 c2])]:=hK
 have hS:=Fb.begin w
 have hG:GsAt [] w:=trivial
 refine wq hS hG hK (fun p1=>[.n 1 #[.bool s,.slice a1 n1 c1,.slice a2 n2 c2] 24,.n 2 #[.bool false,.slice none 0 0,.slice none 0 0] 30,.v 3 (.bool false)]) (fun p1=>[(1,pT (p1 0).N 0),(2,pT (p1 1).N 0),(3,.bool false)]) (fun p1=>?_) (fun p1 W1 T hF hK=>?_)
 ·iterate 2 refine okn ?_
  refine okv ?_
  exact ok_nil
 replace hS:=SymF.fc hS hF [1000,1001] [⟨(p1 0).N,#[.bool s,.slice a1 n1 c1,.slice a2 n2 c2],24,true⟩,⟨(p1 1).N,#[.bool false,.slice none 0 0,.slice none 0 0],30,true⟩]
 replace hG:=hF.gx
 clear hF
 refine wq hS hG hK (fun p2=>[.v 8 (pT (p1 0).N 1),.l 9 (.slice a1 n1 c1) 0 1,.c (some 10) (cN W1.heap.size x),.n 4 #[.slice none 0 0] 28,.p 1003 0 [.slice (p2 2).A (p2 2).N (p2 2).C]]) (fun p2=>[(1,pT (p1 0).N 0),(2,pT (p1 1).N 0),(3,.bool false),(4,pT (p2 3).N 0)]) (fun p2=>?_) (fun p2 W2 T hF hK=>?_)
 ·refine okv ?_
  refine okl ?_
  refine okc (fun W cx=>as_n cx.hb (unhide H1 _ cx.fr)) ?_
  refine okn ?_
  refine okp ?_
  exact ok_nil
 replace hS:=SymF.fc hS hF [0,1,1003] [⟨(p1 0).N,#[.bool s,.slice a1 n1 c1,.slice a2 n2 c2],24,true⟩,⟨(p1 1).N,#[.bool false,.slice none 0 0,.slice none 0 0],30,true⟩,⟨(p2 3).N,#[.slice (p2 2).A (p2 2).N (p2 2).C],28,true⟩]
 replace hG:GsAt (gM W1.heap.size (p2 2).A (p2 2).N (p2 2).C x :: _) W2:=⟨hF.fx 2,hF.gx⟩
 clear hF
 refine wq hS hG hK (fun p3=>[.v 11 (pT (p1 0).N 2),.l 12 (.slice a2 n2 c2) 0 2,.c (some 13) (cN W2.heap.size y),.n 5 #[.slice none 0 0] 28,.p 1003 0 [.slice (p3 2).A (p3 2).N (p3 2).C]]) (fun p3=>[(1,pT (p1 0).N 0),(2,pT (p1 1).N 0),(3,.bool false),(4,pT (p2 3).N 0),(5,pT (p3 3).N 0)]) (fun p3=>?_) (fun p3 W3 T hF hK=>?_)
 ·refine okv ?_
  refine okl ?_
  refine okc (fun W cx=>as_n cx.hb (unhide H2 _ cx.fr)) ?_
  refine okn ?_
  refine okp ?_
  exact ok_nil
 replace hS:=SymF.fc hS hF [0,1,2,1003] [⟨(p1 0).N,#[.bool s,.slice a1 n1 c1,.slice a2 n2 c2],24,true⟩,⟨(p1 1).N,#[.bool false,.slice none 0 0,.slice none 0 0],30,true⟩,⟨(p2 3).N,#[.slice (p2 2).A (p2 2).N (p2 2).C],28,true⟩,⟨(p3 3).N,#[.slice (p3 2).A (p3 2).N (p3 2).C],28,true⟩]
 replace hG:GsAt (gM W2.heap.size (p3 2).A (p3 2).N (p3 2).C y :: _) W3:=⟨hF.fx 2,hF.gx⟩
 clear hF
 refine wp_seq ?_
 refine wq hS hG hK (fun p4=>[.v 14 (pT (p3 3).N 0),.l 15 (.slice (p3 2).A (p3 2).N (p3 2).C) 3 0,.v 16 (.int .i64 ((p3 2).N:Int)),.v 17 (.bool true)]) (fun p4=>[(1,pT (p1 0).N 0),(2,pT (p1 1).N 0),(3,.bool false),(4,pT (p2 3).N 0),(5,pT (p3 3).N 0),(17,.bool true)]) (fun p4=>?_) (fun p4 W4 T hF hK=>?_)
 ·refine okv ?_
  refine okl ?_
  refine okv ?_
  refine okvb (beq_iff_eq.2 (show ((p3 2).N:Int) = 0 from by have:=(Num.zero (Mine.num hG.1)).2 hy; omega)) ?_
  exact ok_nil
 obtain ⟨hS,hG⟩:=SymF.fg hS hF
 clear hF
 refine wp_cond_true (hK.ew 17) ?_
 refine wg hS hG hK (fun p5=>[.n 18 #[.int .u32 1] (1000000+25),.v 19 (.agg #[.slice (some ⟨(p5 0).N,0,none⟩) 1 1]),.p 3 0 [.slice (some ⟨(p5 0).N,0,none⟩) 1 1]]) (fun p5=>[(1,pT (p1 0).N 0),(2,pT (p1 1).N 0),(3,.bool false),(4,pT (p2 3).N 0),(5,pT (p3 3).N 0)]) (fun p5=>?_) (fun p5 W5 T hF hK=>?_)
 ·refine okn ?_
  refine okv ?_
  refine okp ?_
  exact ok_nil
 replace hS:=SymF.fc hS hF [0,1,2,3] [⟨(p1 0).N,#[.bool s,.slice a1 n1 c1,.slice a2 n2 c2],24,true⟩,⟨(p1 1).N,#[.bool false,.slice none 0 0,.slice none 0 0],30,true⟩,⟨(p2 3).N,#[.slice (p2 2).A (p2 2).N (p2 2).C],28,true⟩,⟨(p3 3).N,#[.slice (some ⟨(p5 0).N,0,none⟩) 1 1],28,true⟩]
 replace hG:GsAt (gN (some ⟨(p5 0).N,0,none⟩) 1 1 :: _) W5:=⟨num_1_laid (hF.fx 0 (by kernel_rfl)),hF.gx⟩
 clear hF
 have z5:=hS.fr.size
 refine then_n ?_
 refine wq hS hG hK (fun p6=>[.v 21 (pT (p1 0).N 0),.l 22 (.bool s) 0 0,.l 23 (.agg #[.slice (p2 2).A (p2 2).N (p2 2).C]) 2 0,.l 24 (.agg #[.slice (some ⟨(p5 0).N,0,none⟩) 1 1]) 3 0,.c (some 25) (cH W5.heap.size z dn fun x9 y9=>.tuple #[.agg #[.bool g,x9,y9],.int .i64 0]),.v 20 (.tuple #[.agg #[.bool g,.slice (p6 4).A (p6 4).N (p6 4).C,.slice (p6 4).A' (p6 4).N' (p6 4).C'],.int .i64 0]),.v 26 (.agg #[.bool g,.slice (p6 4).A (p6 4).N (p6 4).C,.slice (p6 4).A' (p6 4).N' (p6 4).C']),.v 27 (.int .i64 0),.n 6 #[.bool false,.slice none 0 0,.slice none 0 0] 30,.p 1008 0 [.bool g,.slice (p6 4).A (p6 4).N (p6 4).C,.slice (p6 4).A' (p6 4).N' (p6 4).C'],.v 7 (.int .i64 0)]) (fun p6=>[(2,pT (p1 1).N 0),(3,.bool false),(6,pT (p6 8).N 0),(7,.int .i64 0)]) (fun p6=>?_) (fun p6 W6 T hF hK=>?_)
 ·refine okv ?_
  iterate 3 refine okl ?_
  refine okc (fun W cx=>as_h cx.hb (unhide HM _ _ _ (p2 2).C _ _ 1 (Mine.num cx.G.2.2.1) (cx.G.1))) ?_
  iterate 3 refine okv ?_
  refine okn ?_
  refine okp ?_
  refine okv ?_
  exact ok_nil
 replace hS:=SymF.fc hS hF [1,1008] [⟨(p1 1).N,#[.bool false,.slice none 0 0,.slice none 0 0],30,true⟩,⟨(p6 8).N,#[.bool g,.slice (p6 4).A (p6 4).N (p6 4).C,.slice (p6 4).A' (p6 4).N' (p6 4).C'],30,true⟩]
 replace hG:GsAt (gM W5.heap.size (p6 4).A (p6 4).N (p6 4).C z :: gM W5.heap.size (p6 4).A' (p6 4).N' (p6 4).C' dn :: _) W6:=⟨And.left (hF.fx 4),And.right (hF.fx 4),hF.gx⟩
 clear hF
 refine wq hS hG hK (fun p7=>[.l 28 (.agg #[.bool g,.slice (p6 4).A (p6 4).N (p6 4).C,.slice (p6 4).A' (p6 4).N' (p6 4).C']) 1 0,.v 29 (.int .i64 0),.v 30 (.bool true),.v 31 (.bool true),.l 32 (.agg #[.bool g,.slice (p6 4).A (p6 4).N (p6 4).C,.slice (p6 4).A' (p6 4).N' (p6 4).C']) 1 0,.c (some 33) (cV (.int .i64 0)),.v 34 (.bool true),.v 35 (.bool true),.p 0 0 [.bool g,.slice (p6 4).A (p6 4).N (p6 4).C,.slice (p6 4).A' (p6 4).N' (p6 4).C'],.v 3 (.bool true)]) (fun p7=>[(2,pT (p1 1).N 0),(3,.bool true)]) (fun p7=>?_) (fun p7 W7 T hF hK=>?_)
 ·refine okl ?_
  iterate 3 refine okv ?_
  refine okl ?_
  refine okc (fun W cx=>as_v (unhide HK _ _ _ (p6 4).C _ _ (p6 4).C' (Mine.num cx.G.1) (Mine.num cx.G.2.1))) ?_
  iterate 2 refine okv ?_
  refine okp ?_
  refine okv ?_
  exact ok_nil
 replace hS:=SymF.fc hS hF [0] [⟨(p1 1).N,#[.bool g,.slice (p6 4).A (p6 4).N (p6 4).C,.slice (p6 4).A' (p6 4).N' (p6 4).C'],30,true⟩]
 replace hG:=hF.gx
 clear hF
 refine wp_ret ?_
 exact sym_end hS hK (.tuple #[.agg #[.bool g,.slice (p6 4).A (p6 4).N (p6 4).C,.slice (p6 4).A' (p6 4).N' (p6 4).C'],.bool true]) [(0,0,3)] [.bool g,.slice (p6 4).A (p6 4).N (p6 4).C,.slice (p6 4).A' (p6 4).N' (p6 4).C'] (by kernel_rfl) (by kernel_rfl) ⟨⟨_,_,_,_,_,_,rfl,Mine.mono hG.1 z5,Mine.mono hG.2.1 z5⟩,hS.fr⟩
end Go.Proofs.YtcfccblpcngeaaaGreat
