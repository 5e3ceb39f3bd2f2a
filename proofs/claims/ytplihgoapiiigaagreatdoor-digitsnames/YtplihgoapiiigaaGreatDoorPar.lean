/- Of what DigitsNamesRow stands on: BgUint Lessen RefPow BgNew BgExp DgFoA. -/
import Derived.Test.YtplihgoapiiigaaGreatDoorPal
import Derived.Test.YtplihgoapiiigaaGreatDoorPao
import Derived.Test.YtplihgoapiiigaaGreatDoorPai
import Derived.Test.YtplihgoapiiigaaGreatDoorPag
import Derived.Test.YtplihgoapiiigaaGreatDoorPad
import Derived.BigQuiet
import Derived.Test.YtplihgoapiiigaaGreatDoorPak
import Derived.Test.YtplihgoapiiigaaGreatDoorPaq
import Derived.Test.YtplihgoapiiigaaGreatDoorPaj
import Derived.Test.YtplihgoapiiigaaGreatDoorPan
namespace Go.Proofs.YtplihgoapiiigaaGreatDoor
open Go.RowKit
set_option maxHeartbeats 4000000
set_option maxRecDepth 20000
theorem bfromUint_any (u:Nat) (w:World) (hu:u < 18446744073709551616) :
  Calls Tryz.prog 85 #[.int .u64 (u:Int)] w fun e w'=>(∃ a n cap,e = .returned (.slice a n cap)∧Mine w' w.heap.size a n cap u)∧Below w.heap.size w w':=by
 have hrow:Row (w.alloc (.cells #[.int .u32 ((u:Int) % 4294967296),.int .u32 ((u:Int) / 4294967296)] 74)) w.heap.size [u % 4294967296,u / 4294967296]:=by
  refine ⟨#[],?_⟩
  rw [heap_alloc_new]
  simp [lc]
 have HR:=hide hrow
 clear hrow
 have hwf:Pl.Wf [u % 4294967296,u / 4294967296]:=Pl.wf_cons (by omega) (Pl.wf_one (by omega))
 have hval:Pl.val [u % 4294967296,u / 4294967296] = u:=by simp [Pl.val]; omega
 have HV:=hide hval
 clear hval
 go_enter Tryz.func85,Tryz.ntmps85
 go_wp2_with fail
 refine (btrim_at w.heap.size 0 2 2 [u % 4294967296,u / 4294967296] _ rfl (by omega) (by omega) (fun j hj=>by rw [Nat.zero_add]; exact (unhide HR).cell j hj)).mono ?_
 rintro e w1 ⟨rfl,n,hn,h0,h1,rfl⟩
 have hn2:n≤2:=hn
 have HT:=hide (btrim_row (cap:=2) (unhide HR) (Nat.le_refl _) (by simp) hwf hn (by simp) hn2 h0 h1)
 clear h0 h1 hn
 go_wp2
 go_ret
 obtain ⟨t1,t2,t3,t4,t5⟩:=unhide HT
 exact ⟨⟨_,n,2,rfl,_,t1,t2,t3,t4,t5.trans (unhide HV),by omega⟩,gr_alloc _ _⟩
theorem Mine.row {w:World} {base n c m:Nat} {a:Option Addr} (h:Mine w base a n c m) (hp:0 < n) :
  ∃ g xs,a = some ⟨g,0,none⟩∧base≤g∧g < w.heap.size∧xs.length = n∧Row w g xs∧Pl.Wf xs∧Pl.Norm xs∧Pl.val xs = m∧n≤c∧c≤9223372036854775807∧n≤16384:=by
 have hcap:=h.cap
 obtain ⟨xs,hn,ho,hw,hN,hv,hb⟩:=h
 rcases ho with ⟨e,_⟩|⟨g,cap,cur,e,hg,hh,h1,h2,h3,hc⟩
 ·injection e with e1 e2 e3; omega
 ·injection e with e1 e2 e3
  have hcur:cur = lc xs ++ (cur.toList.drop n).toArray:=by
   apply Array.toList_inj.1
   rw [Array.toList_append]
   simp only [lc]
   have ht:cur.toList.take n = xs.map (fun z:Nat=>Value.int .u32 (z:Int)):=by
    apply List.ext_getElem
    ·simp; omega
    ·intro i h4 h5
     have hi:i < xs.length:=by simpa using h5
     have:=hc i hi
     rw [List.getElem?_eq_getElem hi,Option.getD_some] at this
     rw [List.getElem_take,List.getElem_map]
     have h6:i < cur.size:=by omega
     rw [Array.getElem?_eq_getElem h6] at this
     injection this with this
   rw [← ht,List.take_append_drop]
  have hlt:g < w.heap.size:=by
   by_cases hlt:g < w.heap.size
   ·exact hlt
   ·rw [Array.getElem?_eq_none (by omega)] at hh; cases hh
  exact ⟨g,xs,e1,hg,hlt,hn,⟨_,by rw [← hcur]; exact hh⟩,hw,hN,hv,hcap.1,hcap.2,hb⟩
theorem Mine.block {w:World} {base n c m g:Nat} {a:Option Addr} (h:Mine w base a n c m) (ha:a = some ⟨g,0,none⟩):base≤g:=by
 obtain ⟨xs,hn,ho,_⟩:=h
 rcases ho with ⟨e,_⟩|⟨g',cap,cur,e,hg,_⟩
 ·injection e with e1 e2 e3; rw [ha] at e1; cases e1
 ·injection e with e1 e2 e3
  rw [ha] at e1
  injection e1 with e1
  injection e1 with e1
  omega
theorem TimesTo.mine {base b0 N P:Nat} {e:Ending} {w':World} (h:TimesTo base N P e w') (hb:b0≤base) :
  ∃ n,e = .returned (.slice (some ⟨base,0,none⟩) n N)∧n≤N∧(n≤16384→Mine w' b0 (some ⟨base,0,none⟩) n N P)∧(16384 < n→Over P)∧∃ zs,zs.length = n∧Own w' base (.slice (some ⟨base,0,none⟩) n N) zs∧Pl.Wf zs∧Pl.Norm zs∧Pl.val zs = P:=by
 obtain ⟨n,zs,he,hn,hl,ho,hw,hN,hv⟩:=h
 refine ⟨n,he,hn,fun h16=>⟨zs,hl,ho.mono hb,hw,hN,hv,h16⟩,fun h16=>⟨?_⟩,zs,hl,ho,hw,hN,hv⟩
 have h:=Pl.val_le_len hw hN Pl.top
 rw [hl,hv,Pl.top_eq] at h
 rw [Pl.top_eq]
 omega
theorem as_int {fn:FuncId} {args:Array Value} {W:World} {p:Nat} {g0 b:Bool} {a0:Option Addr} {n0 c0 m:Nat} {v:Value} (hp:W.heap[p]? = some (.cells #[.bool g0,.slice a0 n0 c0] 54 (0,0)))
  (h:Calls Tryz.prog fn args W fun en w'=>∃ A N C,en = .returned v∧OneBut p W w'∧w'.heap[p]? = some (.cells #[.bool b,.slice A N C] 54 (0,0))∧Mine w' 0 A N C m) :
  Calls Tryz.prog fn args W fun en W'=>∃ A N C,en = .returned v∧Below W.heap.size (evs (sts p 0 [.bool b,.slice A N C]) W) W'∧Mine W' 0 A N C m:=
 h.mono fun en W' ⟨A,N,C,k1,k2,k3,k4⟩=>⟨A,N,C,k1,by
  refine OneBut.below (by decide) ?_ ?_ rfl (Nat.le_refl _) hp k2 k3
  ·intro x hx z; simp at hx; rcases hx with rfl|rfl <;> simp
  ·intro x hx z; simp at hx; rcases hx with rfl|rfl <;> simp,k4⟩
theorem bfromUint_0 (u:Nat) (w:World) (hu:u < 18446744073709551616):Calls Tryz.prog 85 #[.int .u64 (u:Int)] w fun e w'=>(∃ a n cap,e = .returned (.slice a n cap)∧Mine w' 0 a n cap u)∧Below w.heap.size w w':=
 (bfromUint_any u w hu).mono fun _ _ ⟨⟨a,n,c,k1,k2⟩,k3⟩=>⟨⟨a,n,c,k1,k2.mono (Nat.zero_le _)⟩,k3⟩
theorem bcopied_0 (a:Option Addr) (n cap m:Nat) (w:World) (h:Num w a n m):Calls Tryz.prog 50 #[.slice a n cap] w fun e w'=>(∃ A N C,e = .returned (.slice A N C)∧Mine w' 0 A N C m)∧Below w.heap.size w w':=
 (bcopied_num a n cap m w h).mono fun _ _ ⟨⟨A,C,k1,k2⟩,k3⟩=>⟨⟨A,n,C,k1,k2.mono (Nat.zero_le _)⟩,k3⟩
theorem bup_0 (a:Option Addr) (n c m k:Nat) (w:World) (h:Num w a n m) (hk:k < 600000) (hf:n+k / 32+1≤16384):Calls Tryz.prog 55 #[.slice a n c,.int .i64 (k:Int)] w fun e w'=>(∃ A N C,e = .returned (.slice A N C)∧Mine w' 0 A N C (m * 2 ^ k))∧Below w.heap.size w w':=
 (bup_num a n c m k w h hk hf).mono fun _ _ ⟨⟨A,N,C,k1,k2⟩,k3⟩=>⟨⟨A,N,C,k1,k2.mono (Nat.zero_le _)⟩,k3⟩
theorem num_limbs {W:World} {a:Option Addr} {n m:Nat} (h:Num W a n m) (j:Nat) (hm:m < 4294967296 ^ j):n≤j:=by
 obtain ⟨xs,hn,hl,hw,hN,hv,hb⟩:=h
 rw [← hn]
 exact (Pl.val_le_len hw hN j).2 (by rw [hv]; exact hm)
theorem bplain_num (a b:Option Addr) (n c k l m d:Nat) (w:World) (h:Num w a n m) (h':Num w b k d) (hm:0 < m) (hd:0 < d) (hn:n≤8000) (hk:k≤8000) :
  Calls Tryz.prog 109 #[.slice a n c,.slice b k l] w fun e w'=>(∃ A N C,e = .returned (.slice A N C)∧Mine w' 0 A N C (m * d))∧Below w.heap.size w w':=by
 have z1:=h.zero
 have z2:=h'.zero
 obtain ⟨xs,hn1,hl,hw,hN,hv,hb⟩:=h
 obtain ⟨ys,hn2,hl',hw',hN',hv',hb'⟩:=h'
 rcases hl.parts with hx|⟨hp,b1,off,rfl,hlt,hc⟩
 ·exfalso; subst hx; have:n = 0:=by rw [← hn1]; rfl
  have:=z1.1 this; omega
 rcases hl'.parts with hx|⟨hp',b2,off',rfl,hlt',hc'⟩
 ·exfalso; subst hx; have:k = 0:=by rw [← hn2]; rfl
  have:=z2.1 this; omega
 refine (bplain_some b1 off c b2 off' l n k xs ys w (hide hn1) (hide hn2) (by omega) (by omega) hw hw' hlt hlt' (hide (fun j hj=>hc j (by omega))) (hide (fun j hj=>hc' j (by omega)))).mono ?_
 rintro e w' ⟨ht,hbl⟩
 obtain ⟨N,he,hle,h16,-,-⟩:=ht.mine (Nat.zero_le _)
 rw [hv,hv'] at h16
 exact ⟨⟨_,_,_,he,h16 (by omega)⟩,hbl⟩
theorem bmw_ge (w:World) (a b:Option Addr) (n c k l m d:Nat) (h1:Num w a n m) (h2:Num w b k d) (hm:0 < m) (hd:0 < d) (hn:n < 40) (hk:k < 40) (hc:k≤n)  :
  Calls Tryz.prog 84 #[.slice a n c,.slice b k l] w fun en w'=>(∃ A N C,en = .returned (.slice A N C)∧Mine w' 0 A N C (m * d))∧Below w.heap.size w w':=by
 refine calls_sym Tryz.func84 rfl (by kernel_rfl) fun T hK=>?_
 replace hK:Kn T _ [(0,.slice a n c),(1,.slice b k l)]:=hK
 have hS:=Fb.begin w
 have hG:GsAt [gN a n m,gN b k d] w:=⟨h1,h2,trivial⟩
 refine wq hS hG hK (fun p1=>[.v 4 (.slice none 0 0)]) (fun p1=>[(0,.slice a n c),(1,.slice b k l),(4,.slice none 0 0)]) (fun p1=>?_) (fun p1 W1 T hF hK=>?_)
 ·refine okv ?_
  exact ok_nil
 obtain ⟨hS,hG⟩:=SymF.fg hS hF
 clear hF
 refine wp_seq ?_
 refine wq hS hG hK (fun p2=>[.v 11 (.slice a n c),.v 12 (.int .i64 (n:Int)),.v 13 (.slice b k l),.v 14 (.int .i64 (k:Int)),.v 15 (.bool false)]) (fun p2=>[(0,.slice a n c),(1,.slice b k l),(4,.slice none 0 0),(15,.bool false)]) (fun p2=>?_) (fun p2 W2 T hF hK=>?_)
 ·iterate 4 refine okv ?_
  refine okvb (decide_eq_false (show ¬ ((n:Int) < (k:Int)) by omega)) ?_
  exact ok_nil
 obtain ⟨hS,hG⟩:=SymF.fg hS hF
 clear hF
 refine wp_cond_false (hK.ew 15) (wp_skip ?_)
 refine then_n (wp_seq ?_)
 refine wq hS hG hK (fun p3=>[.v 18 (.slice b k l),.v 19 (.int .i64 (k:Int)),.v 20 (.bool true)]) (fun p3=>[(0,.slice a n c),(1,.slice b k l),(4,.slice none 0 0),(20,.bool true)]) (fun p3=>?_) (fun p3 W3 T hF hK=>?_)
 ·iterate 2 refine okv ?_
  refine okvb (decide_eq_true (show (k:Int) < 40 by omega)) ?_
  exact ok_nil
 obtain ⟨hS,hG⟩:=SymF.fg hS hF
 clear hF
 refine wp_cond_true (hK.ew 20) ?_
 refine wq hS hG hK (fun p4=>[.v 21 (.slice a n c),.v 22 (.slice b k l),.c (some 23) (cM0 (m * d) fun x9=>x9),.v 4 (.slice (p4 2).A (p4 2).N (p4 2).C)]) (fun p4=>[(0,.slice a n c),(1,.slice b k l),(4,.slice (p4 2).A (p4 2).N (p4 2).C)]) (fun p4=>?_) (fun p4 W4 T hF hK=>?_)
 ·iterate 2 refine okv ?_
  refine okc (fun W cx=>as_0 (bplain_num _ _ _ c _ l m d W (cx.G.1) (cx.G.2.1) hm hd (by omega) (by omega))) ?_
  refine okv ?_
  exact ok_nil
 replace hS:=SymF.fd hS hF
 replace hG:GsAt (gM 0 (p4 2).A (p4 2).N (p4 2).C (m * d) :: _) W4:=⟨hF.fx 2,hF.gx⟩
 clear hF
 refine wp_ret ?_
 refine then_r ?_
 exact sym_end hS hK (.slice (p4 2).A (p4 2).N (p4 2).C) [] [] (by kernel_rfl) (by kernel_rfl) ⟨⟨_,_,_,rfl,hG.1⟩,hS.fr⟩
theorem bmw_lt (w:World) (a b:Option Addr) (n c k l m d:Nat) (h1:Num w a n m) (h2:Num w b k d) (hm:0 < m) (hd:0 < d) (hn:n < 40) (hk:k < 40) (hc:n < k)  :
  Calls Tryz.prog 84 #[.slice a n c,.slice b k l] w fun en w'=>(∃ A N C,en = .returned (.slice A N C)∧Mine w' 0 A N C (m * d))∧Below w.heap.size w w':=by
 refine calls_sym Tryz.func84 rfl (by kernel_rfl) fun T hK=>?_
 replace hK:Kn T _ [(0,.slice a n c),(1,.slice b k l)]:=hK
 have hS:=Fb.begin w
 have hG:GsAt [gN a n m,gN b k d] w:=⟨h1,h2,trivial⟩
 refine wq hS hG hK (fun p1=>[.v 4 (.slice none 0 0)]) (fun p1=>[(0,.slice a n c),(1,.slice b k l),(4,.slice none 0 0)]) (fun p1=>?_) (fun p1 W1 T hF hK=>?_)
 ·refine okv ?_
  exact ok_nil
 obtain ⟨hS,hG⟩:=SymF.fg hS hF
 clear hF
 refine wp_seq ?_
 refine wq hS hG hK (fun p2=>[.v 11 (.slice a n c),.v 12 (.int .i64 (n:Int)),.v 13 (.slice b k l),.v 14 (.int .i64 (k:Int)),.v 15 (.bool true)]) (fun p2=>[(0,.slice a n c),(1,.slice b k l),(4,.slice none 0 0),(15,.bool true)]) (fun p2=>?_) (fun p2 W2 T hF hK=>?_)
 ·iterate 4 refine okv ?_
  refine okvb (decide_eq_true (show (n:Int) < (k:Int) by omega)) ?_
  exact ok_nil
 obtain ⟨hS,hG⟩:=SymF.fg hS hF
 clear hF
 refine wp_cond_true (hK.ew 15) ?_
 refine wg hS hG hK (fun p3=>[.v 16 (.slice b k l),.v 17 (.slice a n c),.v 0 (.slice b k l),.v 1 (.slice a n c)]) (fun p3=>[(0,.slice b k l),(1,.slice a n c),(4,.slice none 0 0)]) (fun p3=>?_) (fun p3 W3 T hF hK=>?_)
 ·iterate 4 refine okv ?_
  exact ok_nil
 obtain ⟨hS,hG⟩:=SymF.fg hS hF
 clear hF
 refine then_n (wp_seq ?_)
 refine wq hS hG hK (fun p4=>[.v 18 (.slice a n c),.v 19 (.int .i64 (n:Int)),.v 20 (.bool true)]) (fun p4=>[(0,.slice b k l),(1,.slice a n c),(4,.slice none 0 0),(20,.bool true)]) (fun p4=>?_) (fun p4 W4 T hF hK=>?_)
 ·iterate 2 refine okv ?_
  refine okvb (decide_eq_true (show (n:Int) < 40 by omega)) ?_
  exact ok_nil
 obtain ⟨hS,hG⟩:=SymF.fg hS hF
 clear hF
 refine wp_cond_true (hK.ew 20) ?_
 refine wq hS hG hK (fun p5=>[.v 21 (.slice b k l),.v 22 (.slice a n c),.c (some 23) (cM0 (m * d) fun x9=>x9),.v 4 (.slice (p5 2).A (p5 2).N (p5 2).C)]) (fun p5=>[(0,.slice b k l),(1,.slice a n c),(4,.slice (p5 2).A (p5 2).N (p5 2).C)]) (fun p5=>?_) (fun p5 W5 T hF hK=>?_)
 ·iterate 2 refine okv ?_
  refine okc (fun W cx=>as_0 (by rw [Nat.mul_comm m d]; exact bplain_num _ _ _ l _ c d m W (cx.G.2.1) (cx.G.1) hd hm (by omega) (by omega))) ?_
  refine okv ?_
  exact ok_nil
 replace hS:=SymF.fd hS hF
 replace hG:GsAt (gM 0 (p5 2).A (p5 2).N (p5 2).C (m * d) :: _) W5:=⟨hF.fx 2,hF.gx⟩
 clear hF
 refine wp_ret ?_
 refine then_r ?_
 exact sym_end hS hK (.slice (p5 2).A (p5 2).N (p5 2).C) [] [] (by kernel_rfl) (by kernel_rfl) ⟨⟨_,_,_,rfl,hG.1⟩,hS.fr⟩
theorem bmw_num (a b:Option Addr) (n c k l m d:Nat) (w:World) (h1:Num w a n m) (h2:Num w b k d) (hm:0 < m) (hd:0 < d) (hn:n < 40) (hk:k < 40) :
  Calls Tryz.prog 84 #[.slice a n c,.slice b k l] w fun en w'=>(∃ A N C,en = .returned (.slice A N C)∧Mine w' 0 A N C (m * d))∧Below w.heap.size w w':=by
 by_cases hc:n < k
 ·exact bmw_lt w a b n c k l m d h1 h2 hm hd hn hk hc
 ·exact bmw_ge w a b n c k l m d h1 h2 hm hd hn hk (by omega)
theorem bseti (w:World) (p:Nat) (g0:Bool) (a0:Option Addr) (n0 c0:Nat) (m:Nat) (hp:w.heap[p]? = some (.cells #[.bool g0,.slice a0 n0 c0] 54 (0,0))) (hm:m < 9223372036854775808)  :
  Calls Tryz.prog 52 #[.pointer (some ⟨p,0,none⟩),.int .i64 (m:Int)] w fun en w'=>∃ A N C,en = .returned (.pointer (some ⟨p,0,none⟩))∧OneBut p w w'∧w'.heap[p]? = some (.cells #[.bool false,.slice A N C] 54 (0,0))∧Mine w' 0 A N C m:=by
 refine calls_sym Tryz.func52 rfl (by kernel_rfl) fun T hK=>?_
 replace hK:Kn T _ [(0,.pointer (some ⟨p,0,none⟩)),(1,.int .i64 (m:Int))]:=hK
 have hS:=Fb.rcv hp
 have hG:GsAt [] w:=trivial
 refine wq hS hG hK (fun p1=>[.v 4 (.pointer none)]) (fun p1=>[(0,.pointer (some ⟨p,0,none⟩)),(1,.int .i64 (m:Int)),(4,.pointer none)]) (fun p1=>?_) (fun p1 W1 T hF hK=>?_)
 ·refine okv ?_
  exact ok_nil
 obtain ⟨hS,hG⟩:=SymF.fg hS hF
 clear hF
 have z1:=OneBut.size hS.fr
 refine wp_seq ?_
 refine wq hS hG hK (fun p2=>[.v 5 (.int .i64 (m:Int)),.v 6 (.bool false)]) (fun p2=>[(0,.pointer (some ⟨p,0,none⟩)),(1,.int .i64 (m:Int)),(4,.pointer none),(6,.bool false)]) (fun p2=>?_) (fun p2 W2 T hF hK=>?_)
 ·refine okv ?_
  refine okvb (decide_eq_false (show ¬ (m:Int) < 0 by omega)) ?_
  exact ok_nil
 obtain ⟨hS,hG⟩:=SymF.fg hS hF
 clear hF
 have z2:=OneBut.size hS.fr
 refine wp_cond_false (hK.ew 6) (wp_skip (then_n ?_))
 refine wq hS hG hK (fun p3=>[.v 13 (.pointer (some ⟨p,0,none⟩)),.v 14 (.int .i64 (m:Int)),.v 15 (.int .u64 (m:Int)),.c (some 16) (cM0 m fun x9=>x9),.w (some 17) 0 0 [.bool false,.slice (p3 4).A (p3 4).N (p3 4).C] (fun q9=>[.bool false,.slice q9.A q9.N q9.C]) (cP (.pointer (some ⟨p,0,none⟩)) m),.v 4 (.pointer (some ⟨p,0,none⟩))]) (fun p3=>[(0,.pointer (some ⟨p,0,none⟩)),(1,.int .i64 (m:Int)),(4,.pointer (some ⟨p,0,none⟩))]) (fun p3=>?_) (fun p3 W3 T hF hK=>?_)
 ·iterate 2 refine okv ?_
  refine okvi ((show IntKind.u64.wrap (m:Int) = (m:Int) by rw [IntKind.wrap_u64]; omega)) ?_
  refine okc (fun W cx=>as_0 (bfromUint_0 m W (by omega))) ?_
  refine ok_W p #[.bool g0,.slice a0 n0 c0] 54 (fun W cx hW=>as_wp (fun s9=>[.bool false,s9]) (fun _=>rfl) (bset_num _ false _ _ _ _ _ _ _ m W hW (cx.F 3 (by kernel_rfl)))) (by kernel_rfl) (by kernel_rfl) (by kernel_rfl) (by kernel_rfl) (by kernel_rfl) rfl (by kernel_rfl) ?_
  refine okv ?_
  exact ok_nil
 replace hS:=SymF.fc hS hF [0] [⟨p,#[.bool false,.slice (p3 4).A (p3 4).N (p3 4).C],54,true⟩]
 replace hG:GsAt (gM 0 (p3 3).A (p3 3).N (p3 3).C m :: gM 0 (p3 4).A (p3 4).N (p3 4).C m :: _) W3:=⟨hF.fx 3,hF.fx 4,hF.gx⟩
 clear hF
 have z3:=OneBut.size hS.fr
 refine wp_ret ?_
 exact sym_end hS hK (.pointer (some ⟨p,0,none⟩)) [] [] (by kernel_rfl) (by kernel_rfl) ⟨_,_,_,rfl,hS.fr,hS.bx _ (List.mem_cons_self ..),hG.2.1⟩
theorem bnew (w:World) (m:Nat) (hm:m < 9223372036854775808)  :
  Calls Tryz.prog 25 #[.int .i64 (m:Int)] w fun en w'=>∃ q A N C,en = .returned (.pointer (some ⟨q,0,none⟩))∧Below w.heap.size w w'∧w.heap.size≤q∧w'.heap[q]? = some (.cells #[.bool false,.slice A N C] 54 (0,0))∧Mine w' 0 A N C m:=by
 refine calls_sym Tryz.func25 rfl (by kernel_rfl) fun T hK=>?_
 replace hK:Kn T _ [(0,.int .i64 (m:Int))]:=hK
 have hS:=Fb.begin w
 have hG:GsAt [] w:=trivial
 refine wq hS hG hK (fun p1=>[.v 2 (.pointer none)]) (fun p1=>[(0,.int .i64 (m:Int)),(2,.pointer none)]) (fun p1=>?_) (fun p1 W1 T hF hK=>?_)
 ·refine okv ?_
  exact ok_nil
 obtain ⟨hS,hG⟩:=SymF.fg hS hF
 clear hF
 refine wq hS hG hK (fun p2=>[.v 4 (.agg #[.bool false,.slice none 0 0]),.n 5 #[.bool false,.slice none 0 0] 54,.v 3 (pT (p2 1).N 0)]) (fun p2=>[(0,.int .i64 (m:Int)),(2,.pointer none),(3,pT (p2 1).N 0)]) (fun p2=>?_) (fun p2 W2 T hF hK=>?_)
 ·refine okv ?_
  refine okn ?_
  refine okv ?_
  exact ok_nil
 replace hS:=SymF.fc hS hF [1001] [⟨(p2 1).N,#[.bool false,.slice none 0 0],54,true⟩]
 replace hG:=hF.gx
 clear hF
 refine wq hS hG hK (fun p3=>[.v 6 (pT (p2 1).N 0),.v 7 (.int .i64 (m:Int)),.w (some 8) 0 0 [.bool false,.slice (p3 2).A (p3 2).N (p3 2).C] (fun q9=>[.bool false,.slice q9.A q9.N q9.C]) (cP (pT (p2 1).N 0) m),.v 2 (pT (p2 1).N 0)]) (fun p3=>[(2,pT (p2 1).N 0)]) (fun p3=>?_) (fun p3 W3 T hF hK=>?_)
 ·iterate 2 refine okv ?_
  refine ok_W (p2 1).N #[.bool false,.slice none 0 0] 54 (fun W cx hW=>as_wp (fun s9=>[.bool false,s9]) (fun _=>rfl) (as_int hW (bseti W _ _ _ _ _ m hW hm))) (by kernel_rfl) (by kernel_rfl) (by kernel_rfl) (by kernel_rfl) (by kernel_rfl) rfl (by kernel_rfl) ?_
  refine okv ?_
  exact ok_nil
 replace hS:=SymF.fc hS hF [0] [⟨(p2 1).N,#[.bool false,.slice (p3 2).A (p3 2).N (p3 2).C],54,true⟩]
 replace hG:GsAt (gM 0 (p3 2).A (p3 2).N (p3 2).C m :: _) W3:=⟨hF.fx 2,hF.gx⟩
 clear hF
 refine wp_ret ?_
 exact sym_end hS hK (pT (p2 1).N 0) [] [] (by kernel_rfl) (by kernel_rfl) ⟨_,_,_,_,rfl,hS.fr,hS.low.1 rfl,hS.bx _ (List.mem_cons_self ..),hG.1⟩
theorem blsh (w:World) (p:Nat) (g0:Bool) (a0:Option Addr) (n0 c0:Nat) (q:Nat) (a:Option Addr) (n c m:Nat) (k:Nat) (hp:w.heap[p]? = some (.cells #[.bool g0,.slice a0 n0 c0] 54 (0,0))) (hq:w.heap[q]? = some (.cells #[.bool false,.slice a n c] 54 (0,0))) (hne:q≠p) (h1:Num w a n m) (hk:k < 600000) (hf:n+k / 32+1≤16384)  :
  Calls Tryz.prog 27 #[.pointer (some ⟨p,0,none⟩),.pointer (some ⟨q,0,none⟩),.int .u64 (k:Int)] w fun en w'=>∃ A N C,en = .returned (.pointer (some ⟨p,0,none⟩))∧OneBut p w w'∧w'.heap[p]? = some (.cells #[.bool false,.slice A N C] 54 (0,0))∧Mine w' 0 A N C (m * 2 ^ k):=by
 refine calls_sym Tryz.func27 rfl (by kernel_rfl) fun T hK=>?_
 replace hK:Kn T _ [(0,.pointer (some ⟨p,0,none⟩)),(1,.pointer (some ⟨q,0,none⟩)),(2,.int .u64 (k:Int))]:=hK
 have hS:=Fb.rcv hp
 replace hS:=hS.more hq ⟨fun _=>hne,trivial⟩
 have hG:GsAt [gN a n m] w:=⟨h1,trivial⟩
 refine wq hS hG hK (fun p1=>[.v 6 (.pointer none)]) (fun p1=>[(0,.pointer (some ⟨p,0,none⟩)),(1,.pointer (some ⟨q,0,none⟩)),(2,.int .u64 (k:Int)),(6,.pointer none)]) (fun p1=>?_) (fun p1 W1 T hF hK=>?_)
 ·refine okv ?_
  exact ok_nil
 obtain ⟨hS,hG⟩:=SymF.fg hS hF
 clear hF
 have z1:=OneBut.size hS.fr
 refine wq hS hG hK (fun p2=>[.v 7 (.pointer (some ⟨p,0,none⟩)),.v 8 (.pointer (some ⟨q,0,none⟩)),.v 9 (.pointer (some ⟨q,0,none⟩)),.v 10 (.pointer (some ⟨q,0,none⟩)),.l 11 (.bool false) 0 0,.v 12 (.pointer (some ⟨q,0,none⟩)),.v 13 (.pointer (some ⟨q,0,none⟩)),.v 14 (.pointer (some ⟨q,1,none⟩)),.l 15 (.slice a n c) 0 1,.v 16 (.int .u64 (k:Int)),.v 17 (.int .i64 (k:Int)),.c (some 18) (cM0 (m * 2 ^ k) fun x9=>x9),.w (some 19) 1 0 [.bool false,.slice (p2 12).A (p2 12).N (p2 12).C] (fun q9=>[.bool false,.slice q9.A q9.N q9.C]) (cP (.pointer (some ⟨p,0,none⟩)) (m * 2 ^ k)),.v 6 (.pointer (some ⟨p,0,none⟩))]) (fun p2=>[(6,.pointer (some ⟨p,0,none⟩))]) (fun p2=>?_) (fun p2 W2 T hF hK=>?_)
 ·iterate 4 refine okv ?_
  refine okl ?_
  iterate 3 refine okv ?_
  refine okl ?_
  refine okv ?_
  refine okvi ((show IntKind.i64.wrap (k:Int) = (k:Int) from wr64 (by omega) (by omega))) ?_
  refine okc (fun W cx=>as_0 (bup_0 _ _ c m k W (cx.G.1) hk hf)) ?_
  refine ok_W p #[.bool g0,.slice a0 n0 c0] 54 (fun W cx hW=>as_wp (fun s9=>[.bool false,s9]) (fun _=>rfl) (bset_num _ false _ _ _ _ _ _ _ (m * 2 ^ k) W hW (cx.F 11 (by kernel_rfl)))) (by kernel_rfl) (by kernel_rfl) (by kernel_rfl) (by kernel_rfl) (by kernel_rfl) rfl (by kernel_rfl) ?_
  refine okv ?_
  exact ok_nil
 replace hS:=SymF.fc hS hF [0,1] [⟨q,#[.bool false,.slice a n c],54,false⟩,⟨p,#[.bool false,.slice (p2 12).A (p2 12).N (p2 12).C],54,true⟩]
 replace hG:GsAt (gM 0 (p2 11).A (p2 11).N (p2 11).C (m * 2 ^ k) :: gM 0 (p2 12).A (p2 12).N (p2 12).C (m * 2 ^ k) :: _) W2:=⟨hF.fx 11,hF.fx 12,hF.gx⟩
 clear hF
 have z2:=OneBut.size hS.fr
 refine wp_ret ?_
 exact sym_end hS hK (.pointer (some ⟨p,0,none⟩)) [] [] (by kernel_rfl) (by kernel_rfl) ⟨_,_,_,rfl,hS.fr,hS.bx _ (List.mem_cons_of_mem _ (List.mem_cons_self ..)),hG.2.1⟩
theorem bmul_zz (w:World) (p:Nat) (a0:Option Addr) (n0 c0 m:Nat)  (hp:w.heap[p]? = some (.cells #[.bool false,.slice a0 n0 c0] 54 (0,0))) (h1:Num w a0 n0 m) (hm:0 < m) (hn:n0 < 40)  :
  Calls Tryz.prog 51 #[.pointer (some ⟨p,0,none⟩),.pointer (some ⟨p,0,none⟩),.pointer (some ⟨p,0,none⟩)] w fun en w'=>∃ A N C,en = .returned (.pointer (some ⟨p,0,none⟩))∧OneBut p w w'∧w'.heap[p]? = some (.cells #[.bool false,.slice A N C] 54 (0,0))∧Mine w' 0 A N C (m * m):=by
 refine calls_sym Tryz.func51 rfl (by kernel_rfl) fun T hK=>?_
 replace hK:Kn T _ [(0,.pointer (some ⟨p,0,none⟩)),(1,.pointer (some ⟨p,0,none⟩)),(2,.pointer (some ⟨p,0,none⟩))]:=hK
 have hS:=Fb.rcv hp
 have hG:GsAt [gN a0 n0 m] w:=⟨h1,trivial⟩
 refine wq hS hG hK (fun p1=>[.v 6 (.pointer none)]) (fun p1=>[(0,.pointer (some ⟨p,0,none⟩)),(1,.pointer (some ⟨p,0,none⟩)),(2,.pointer (some ⟨p,0,none⟩)),(6,.pointer none)]) (fun p1=>?_) (fun p1 W1 T hF hK=>?_)
 ·refine okv ?_
  exact ok_nil
 obtain ⟨hS,hG⟩:=SymF.fg hS hF
 clear hF
 have z1:=OneBut.size hS.fr
 refine wq hS hG hK (fun p2=>[.v 7 (.pointer (some ⟨p,0,none⟩)),.v 8 (.pointer (some ⟨p,0,none⟩)),.v 9 (.pointer (some ⟨p,0,none⟩)),.v 10 (.pointer (some ⟨p,0,none⟩)),.l 11 (.bool false) 0 0,.v 12 (.pointer (some ⟨p,0,none⟩)),.v 13 (.pointer (some ⟨p,0,none⟩)),.v 14 (.pointer (some ⟨p,0,none⟩)),.l 15 (.bool false) 0 0,.v 16 (.bool false),.v 17 (.pointer (some ⟨p,0,none⟩)),.v 18 (.pointer (some ⟨p,0,none⟩)),.v 19 (.pointer (some ⟨p,1,none⟩)),.l 20 (.slice a0 n0 c0) 0 1,.v 21 (.pointer (some ⟨p,0,none⟩)),.v 22 (.pointer (some ⟨p,0,none⟩)),.v 23 (.pointer (some ⟨p,1,none⟩)),.l 24 (.slice a0 n0 c0) 0 1,.c (some 25) (cM0 (m * m) fun x9=>x9),.w (some 26) 0 0 [.bool false,.slice (p2 19).A (p2 19).N (p2 19).C] (fun q9=>[.bool false,.slice q9.A q9.N q9.C]) (cP (.pointer (some ⟨p,0,none⟩)) (m * m)),.v 6 (.pointer (some ⟨p,0,none⟩))]) (fun p2=>[(6,.pointer (some ⟨p,0,none⟩))]) (fun p2=>?_) (fun p2 W2 T hF hK=>?_)
 ·iterate 4 refine okv ?_
  refine okl ?_
  iterate 3 refine okv ?_
  refine okl ?_
  iterate 4 refine okv ?_
  refine okl ?_
  iterate 3 refine okv ?_
  refine okl ?_
  refine okc (fun W cx=>as_0 (bmw_num _ _ _ c0 _ c0 m m W (cx.G.1) (cx.G.1) hm hm hn hn)) ?_
  refine ok_W p #[.bool false,.slice a0 n0 c0] 54 (fun W cx hW=>as_wp (fun s9=>[.bool false,s9]) (fun _=>rfl) (bset_num _ false _ _ _ _ _ _ _ (m * m) W hW (cx.F 18 (by kernel_rfl)))) (by kernel_rfl) (by kernel_rfl) (by kernel_rfl) (by kernel_rfl) (by kernel_rfl) rfl (by kernel_rfl) ?_
  refine okv ?_
  exact ok_nil
 replace hS:=SymF.fc hS hF [0] [⟨p,#[.bool false,.slice (p2 19).A (p2 19).N (p2 19).C],54,true⟩]
 replace hG:GsAt (gM 0 (p2 18).A (p2 18).N (p2 18).C (m * m) :: gM 0 (p2 19).A (p2 19).N (p2 19).C (m * m) :: _) W2:=⟨hF.fx 18,hF.fx 19,hF.gx⟩
 clear hF
 have z2:=OneBut.size hS.fr
 refine wp_ret ?_
 exact sym_end hS hK (.pointer (some ⟨p,0,none⟩)) [] [] (by kernel_rfl) (by kernel_rfl) ⟨_,_,_,rfl,hS.fr,hS.bx _ (List.mem_cons_self ..),hG.2.1⟩
theorem bmul_zx (w:World) (p:Nat) (a0:Option Addr) (n0 c0 m:Nat) (q:Nat) (a:Option Addr) (n c d:Nat) (hp:w.heap[p]? = some (.cells #[.bool false,.slice a0 n0 c0] 54 (0,0))) (h1:Num w a0 n0 m) (hm:0 < m) (hn:n0 < 40) (hq:w.heap[q]? = some (.cells #[.bool false,.slice a n c] 54 (0,0))) (hne:q≠p) (h2:Num w a n d) (hd:0 < d) (hk:n < 40)  :
  Calls Tryz.prog 51 #[.pointer (some ⟨p,0,none⟩),.pointer (some ⟨p,0,none⟩),.pointer (some ⟨q,0,none⟩)] w fun en w'=>∃ A N C,en = .returned (.pointer (some ⟨p,0,none⟩))∧OneBut p w w'∧w'.heap[p]? = some (.cells #[.bool false,.slice A N C] 54 (0,0))∧Mine w' 0 A N C (m * d):=by
 refine calls_sym Tryz.func51 rfl (by kernel_rfl) fun T hK=>?_
 replace hK:Kn T _ [(0,.pointer (some ⟨p,0,none⟩)),(1,.pointer (some ⟨p,0,none⟩)),(2,.pointer (some ⟨q,0,none⟩))]:=hK
 have hS:=Fb.rcv hp
 replace hS:=hS.more hq ⟨fun _=>hne,trivial⟩
 have hG:GsAt [gN a0 n0 m,gN a n d] w:=⟨h1,h2,trivial⟩
 refine wq hS hG hK (fun p1=>[.v 6 (.pointer none)]) (fun p1=>[(0,.pointer (some ⟨p,0,none⟩)),(1,.pointer (some ⟨p,0,none⟩)),(2,.pointer (some ⟨q,0,none⟩)),(6,.pointer none)]) (fun p1=>?_) (fun p1 W1 T hF hK=>?_)
 ·refine okv ?_
  exact ok_nil
 obtain ⟨hS,hG⟩:=SymF.fg hS hF
 clear hF
 have z1:=OneBut.size hS.fr
 refine wq hS hG hK (fun p2=>[.v 7 (.pointer (some ⟨p,0,none⟩)),.v 8 (.pointer (some ⟨p,0,none⟩)),.v 9 (.pointer (some ⟨p,0,none⟩)),.v 10 (.pointer (some ⟨p,0,none⟩)),.l 11 (.bool false) 1 0,.v 12 (.pointer (some ⟨q,0,none⟩)),.v 13 (.pointer (some ⟨q,0,none⟩)),.v 14 (.pointer (some ⟨q,0,none⟩)),.l 15 (.bool false) 0 0,.v 16 (.bool false),.v 17 (.pointer (some ⟨p,0,none⟩)),.v 18 (.pointer (some ⟨p,0,none⟩)),.v 19 (.pointer (some ⟨p,1,none⟩)),.l 20 (.slice a0 n0 c0) 1 1,.v 21 (.pointer (some ⟨q,0,none⟩)),.v 22 (.pointer (some ⟨q,0,none⟩)),.v 23 (.pointer (some ⟨q,1,none⟩)),.l 24 (.slice a n c) 0 1,.c (some 25) (cM0 (m * d) fun x9=>x9),.w (some 26) 1 0 [.bool false,.slice (p2 19).A (p2 19).N (p2 19).C] (fun q9=>[.bool false,.slice q9.A q9.N q9.C]) (cP (.pointer (some ⟨p,0,none⟩)) (m * d)),.v 6 (.pointer (some ⟨p,0,none⟩))]) (fun p2=>[(6,.pointer (some ⟨p,0,none⟩))]) (fun p2=>?_) (fun p2 W2 T hF hK=>?_)
 ·iterate 4 refine okv ?_
  refine okl ?_
  iterate 3 refine okv ?_
  refine okl ?_
  iterate 4 refine okv ?_
  refine okl ?_
  iterate 3 refine okv ?_
  refine okl ?_
  refine okc (fun W cx=>as_0 (bmw_num _ _ _ c0 _ c m d W (cx.G.1) (cx.G.2.1) hm hd hn hk)) ?_
  refine ok_W p #[.bool false,.slice a0 n0 c0] 54 (fun W cx hW=>as_wp (fun s9=>[.bool false,s9]) (fun _=>rfl) (bset_num _ false _ _ _ _ _ _ _ (m * d) W hW (cx.F 18 (by kernel_rfl)))) (by kernel_rfl) (by kernel_rfl) (by kernel_rfl) (by kernel_rfl) (by kernel_rfl) rfl (by kernel_rfl) ?_
  refine okv ?_
  exact ok_nil
 replace hS:=SymF.fc hS hF [0,1] [⟨q,#[.bool false,.slice a n c],54,false⟩,⟨p,#[.bool false,.slice (p2 19).A (p2 19).N (p2 19).C],54,true⟩]
 replace hG:GsAt (gM 0 (p2 18).A (p2 18).N (p2 18).C (m * d) :: gM 0 (p2 19).A (p2 19).N (p2 19).C (m * d) :: _) W2:=⟨hF.fx 18,hF.fx 19,hF.gx⟩
 clear hF
 have z2:=OneBut.size hS.fr
 refine wp_ret ?_
 exact sym_end hS hK (.pointer (some ⟨p,0,none⟩)) [] [] (by kernel_rfl) (by kernel_rfl) ⟨_,_,_,rfl,hS.fr,hS.bx _ (List.mem_cons_of_mem _ (List.mem_cons_self ..)),hG.2.1⟩
theorem bcmp_p (w:World) (p q:Nat) (a b:Option Addr) (n c k l m d:Nat) (hp:w.heap[p]? = some (.cells #[.bool false,.slice a n c] 54 (0,0))) (hq:w.heap[q]? = some (.cells #[.bool false,.slice b k l] 54 (0,0))) (h1:Num w a n m) (h2:Num w b k d)  :
  Calls Tryz.prog 26 #[.pointer (some ⟨p,0,none⟩),.pointer (some ⟨q,0,none⟩)] w fun en w'=>en = .returned (.int .i64 (cmpI m d))∧Below w.heap.size w w':=by
 refine calls_sym Tryz.func26 rfl (by kernel_rfl) fun T hK=>?_
 replace hK:Kn T _ [(0,.pointer (some ⟨p,0,none⟩)),(1,.pointer (some ⟨q,0,none⟩))]:=hK
 have hS:=Fb.other hp
 replace hS:=hS.more hq ⟨fun h9=>absurd h9 (by simp),trivial⟩
 have hG:GsAt [gN a n m,gN b k d] w:=⟨h1,h2,trivial⟩
 refine wq hS hG hK (fun p1=>[.v 4 (.int .i64 0)]) (fun p1=>[(0,.pointer (some ⟨p,0,none⟩)),(1,.pointer (some ⟨q,0,none⟩)),(4,.int .i64 0)]) (fun p1=>?_) (fun p1 W1 T hF hK=>?_)
 ·refine okv ?_
  exact ok_nil
 obtain ⟨hS,hG⟩:=SymF.fg hS hF
 clear hF
 refine wp_seq ?_
 refine wq hS hG hK (fun p2=>[.v 5 (.pointer (some ⟨p,0,none⟩)),.v 6 (.pointer (some ⟨p,0,none⟩)),.v 7 (.pointer (some ⟨p,0,none⟩)),.l 8 (.bool false) 1 0,.v 9 (.pointer (some ⟨q,0,none⟩)),.v 10 (.pointer (some ⟨q,0,none⟩)),.v 11 (.pointer (some ⟨q,0,none⟩)),.l 12 (.bool false) 0 0,.v 13 (.bool false)]) (fun p2=>[(0,.pointer (some ⟨p,0,none⟩)),(1,.pointer (some ⟨q,0,none⟩)),(4,.int .i64 0),(13,.bool false)]) (fun p2=>?_) (fun p2 W2 T hF hK=>?_)
 ·iterate 3 refine okv ?_
  refine okl ?_
  iterate 3 refine okv ?_
  refine okl ?_
  refine okv ?_
  exact ok_nil
 obtain ⟨hS,hG⟩:=SymF.fg hS hF
 clear hF
 refine wp_cond_false (hK.ew 13) (wp_skip ?_)
 refine then_n (wp_seq ?_)
 refine wq hS hG hK (fun p3=>[.v 18 (.pointer (some ⟨p,0,none⟩)),.v 19 (.pointer (some ⟨p,0,none⟩)),.v 20 (.pointer (some ⟨p,0,none⟩)),.l 21 (.bool false) 1 0]) (fun p3=>[(0,.pointer (some ⟨p,0,none⟩)),(1,.pointer (some ⟨q,0,none⟩)),(4,.int .i64 0),(21,.bool false)]) (fun p3=>?_) (fun p3 W3 T hF hK=>?_)
 ·iterate 3 refine okv ?_
  refine okl ?_
  exact ok_nil
 obtain ⟨hS,hG⟩:=SymF.fg hS hF
 clear hF
 refine wp_cond_false (hK.ew 21) (wp_skip (then_n ?_))
 refine wq hS hG hK (fun p4=>[.v 32 (.pointer (some ⟨p,0,none⟩)),.v 33 (.pointer (some ⟨p,0,none⟩)),.v 34 (.pointer (some ⟨p,1,none⟩)),.l 35 (.slice a n c) 1 1,.v 36 (.pointer (some ⟨q,0,none⟩)),.v 37 (.pointer (some ⟨q,0,none⟩)),.v 38 (.pointer (some ⟨q,1,none⟩)),.l 39 (.slice b k l) 0 1,.c (some 40) (cV (.int .i64 (cmpI m d))),.v 4 (.int .i64 (cmpI m d))]) (fun p4=>[(0,.pointer (some ⟨p,0,none⟩)),(1,.pointer (some ⟨q,0,none⟩)),(4,.int .i64 (cmpI m d))]) (fun p4=>?_) (fun p4 W4 T hF hK=>?_)
 ·iterate 3 refine okv ?_
  refine okl ?_
  iterate 3 refine okv ?_
  refine okl ?_
  refine okc (fun W cx=>as_v (bcmp_all _ _ _ _ c l m d W (cx.G.1) (cx.G.2.1))) ?_
  refine okv ?_
  exact ok_nil
 obtain ⟨hS,hG⟩:=SymF.fg hS hF
 clear hF
 refine wp_ret ?_
 exact sym_end hS hK (.int .i64 (cmpI m d)) [] [] (by kernel_rfl) (by kernel_rfl) ⟨rfl,hS.fr⟩
theorem script_ib {P:Program} {r:Nat} {t el:TypeId} {A:Option Addr} {len b c:Nat} (hA:A = some ⟨b,0,none⟩) (hu:P.underlying t = some (.slice el)) (hs:∀ r,script P r (sizeOf el) [] = some (1,[])) (hj:0 < len) :
  script P r (Instr.indexAt t (.slice A len c) (.int .i64 0)) [] = some (.pointer (some ⟨b,0+0,none⟩),[]):=by
 subst hA; exact script_isl (j:=0) hu hs rfl hj
theorem one_limb {W:World} {B:Nat} {a:Option Addr} {n c m:Nat} (h:Mine W B a n c m) (h0:0 < m) (h1:m < 4294967296):∃ b:Nat,a = some ⟨b,0,none⟩∧n = 1∧W.cell? ⟨b,0,none⟩ = some (.int .u32 (m:Int)):=by
 have hn:0 < n:=Nat.pos_of_ne_zero fun e=>by have:=(Mine.num h).zero.1 e; omega
 have h2:n≤1:=num_limbs (Mine.num h) 1 (by omega)
 obtain ⟨g,xs,ha,_,_,hl,hr,_,_,hv,_⟩:=h.row hn
 match xs,hl,hv,hr with
 | [],hl,_,_=>simp at hl; omega
 | [x],hl,hv,hr=>
  refine ⟨g,ha,by omega,?_⟩
  have:=hr.cell 0 (by simp)
  have e:x = m:=by rw [← hv]; simp [Pl.val]
  subst e
  simpa using this
 | _ :: _ :: _,hl,_,_=>simp at hl; omega
theorem shr_nat (e k:Nat) (hk:k≤32):Int.fdiv (e:Int) (2 ^ min ((k:Nat):Int).toNat (IntKind.u32.bits)) = ((e / 2 ^ k:Nat):Int):=by
 have hm:min ((k:Nat):Int).toNat (IntKind.u32.bits) = k:=by
  rw [Int.toNat_natCast]; exact Nat.min_eq_left hk
 rw [hm,Int.fdiv_eq_ediv_of_nonneg _ (Int.pow_nonneg (by decide))]
 rw [Int.natCast_ediv,Int.natCast_pow]; rfl
theorem exp_step {x e k v:Nat} (hx:0 < x) (hv:v = x ^ (e / 2 ^ (k+1))):0 < v∧v≤x ^ e∧v * v≤x ^ e∧(e / 2 ^ k % 2 = 0→v * v = x ^ (e / 2 ^ k))∧(e / 2 ^ k % 2 = 1→v * v * x = x ^ (e / 2 ^ k)):=by
 have h1:e / 2 ^ (k+1) = e / 2 ^ k / 2:=by rw [Nat.pow_succ,Nat.div_div_eq_div_mul]
 have h2:e / 2 ^ k≤e:=Nat.div_le_self _ _
 have h3:v * v = x ^ (e / 2 ^ k / 2+e / 2 ^ k / 2):=by rw [hv,h1,Nat.pow_add]
 refine ⟨by rw [hv]; exact Nat.pow_pos hx,by rw [hv]; exact Nat.pow_le_pow_right hx (by omega),by rw [h3]; exact Nat.pow_le_pow_right hx (by omega),fun h=>?_,fun h=>?_⟩
 ·rw [h3]; congr 1; omega
 ·rw [h3,← Nat.pow_succ]; congr 1; omega
theorem bexp_go (w:World) (p q r:Nat) (g0:Bool) (a0:Option Addr) (n0 c0:Nat) (a b:Option Addr) (n c k0 l x e:Nat) (hp:w.heap[p]? = some (.cells #[.bool g0,.slice a0 n0 c0] 54 (0,0))) (hq:w.heap[q]? = some (.cells #[.bool false,.slice a n c] 54 (0,0))) (hr:w.heap[r]? = some (.cells #[.bool false,.slice b k0 l] 54 (0,0))) (hqp:q≠p) (hrp:r≠p) (h1:Num w a n x) (h2:Num w b k0 e) (hx0:0 < x) (he0:0 < e) (he32:e < 4294967296) (hb39:x ^ e < 4294967296 ^ 39)  :
  Calls Tryz.prog 24 #[.pointer (some ⟨p,0,none⟩),.pointer (some ⟨q,0,none⟩),.pointer (some ⟨r,0,none⟩),.pointer none] w fun en w'=>∃ A N C,en = .returned (.pointer (some ⟨p,0,none⟩))∧OneBut p w w'∧w'.heap[p]? = some (.cells #[.bool false,.slice A N C] 54 (0,0))∧Mine w' 0 A N C (x ^ e):=by
 have hx39:x < 4294967296 ^ 39:=Nat.lt_of_le_of_lt (Nat.le_trans (Nat.le_of_eq (Nat.pow_one x).symm) (Nat.pow_le_pow_right hx0 he0)) hb39
 have hk0:k0≠0:=fun e9=>by have:=h2.zero.1 e9; omega
 obtain ⟨k,hkz⟩:∃ k,k = 32:=⟨_,rfl⟩
 have hkn:k≤32:=by omega
 refine calls_sym Tryz.func24 rfl (by kernel_rfl) fun T hK=>?_
 replace hK:Kn T _ [(0,.pointer (some ⟨p,0,none⟩)),(1,.pointer (some ⟨q,0,none⟩)),(2,.pointer (some ⟨r,0,none⟩)),(3,.pointer none)]:=hK
 have hS:=Fb.rcv hp
 replace hS:=hS.more hq ⟨fun _=>hqp,trivial⟩
 replace hS:=hS.more hr ⟨fun h9=>absurd h9 (by simp),⟨fun _=>hrp,trivial⟩⟩
 have hG:GsAt [gN a n x,gN b k0 e] w:=⟨h1,h2,trivial⟩
 refine wq hS hG hK (fun p1=>[.v 8 (.pointer none)]) (fun p1=>[(0,.pointer (some ⟨p,0,none⟩)),(1,.pointer (some ⟨q,0,none⟩)),(2,.pointer (some ⟨r,0,none⟩)),(3,.pointer none),(8,.pointer none)]) (fun p1=>?_) (fun p1 W1 T hF hJ=>?_)
 ·refine okv ?_
  exact ok_nil
 replace hS:=SymF.fc hS hF [0,1,2] [⟨r,#[.bool false,.slice b k0 l],54,false⟩,⟨q,#[.bool false,.slice a n c],54,false⟩,⟨p,#[.bool g0,.slice a0 n0 c0],54,true⟩]
 replace hG:=hF.gx
 clear hF hK
 have hK:=hJ
 clear hJ
 have z1:=OneBut.size hS.fr
 refine wq hS hG hK (fun p2=>[.v 14 (.agg #[.bool false,.slice none 0 0]),.n 15 #[.bool false,.slice none 0 0] 54,.v 9 (pT (p2 1).N 0)]) (fun p2=>[(0,.pointer (some ⟨p,0,none⟩)),(1,.pointer (some ⟨q,0,none⟩)),(2,.pointer (some ⟨r,0,none⟩)),(3,.pointer none),(8,.pointer none),(9,pT (p2 1).N 0)]) (fun p2=>?_) (fun p2 W2 T hF hJ=>?_)
 ·refine okv ?_
  refine okn ?_
  refine okv ?_
  exact ok_nil
 replace hS:=SymF.fc hS hF [0,1,2,1001] [⟨r,#[.bool false,.slice b k0 l],54,false⟩,⟨q,#[.bool false,.slice a n c],54,false⟩,⟨p,#[.bool g0,.slice a0 n0 c0],54,true⟩,⟨(p2 1).N,#[.bool false,.slice none 0 0],54,true⟩]
 replace hG:=hF.gx
 clear hF hK
 have hK:=hJ
 clear hJ
 have z2:=OneBut.size hS.fr
 refine wp_seq ?_
 refine wq hS hG hK (fun p3=>[.v 16 (.pointer none),.v 17 (.bool false)]) (fun p3=>[(0,.pointer (some ⟨p,0,none⟩)),(1,.pointer (some ⟨q,0,none⟩)),(2,.pointer (some ⟨r,0,none⟩)),(3,.pointer none),(8,.pointer none),(9,pT (p2 1).N 0),(17,.bool false)]) (fun p3=>?_) (fun p3 W3 T hF hJ=>?_)
 ·iterate 2 refine okv ?_
  exact ok_nil
 replace hS:=SymF.fd hS hF
 replace hG:=hF.gx
 clear hF hK
 have hK:=hJ
 clear hJ
 have z3:=OneBut.size hS.fr
 refine wp_cond_false (hK.ew 17) (wp_skip (then_n ?_))
 refine wq hS hG hK (fun p4=>[.c (some 21) (cPt (false) 54 1),.v 10 (.pointer (some ⟨(p4 0).M,0,none⟩))]) (fun p4=>[(0,.pointer (some ⟨p,0,none⟩)),(1,.pointer (some ⟨q,0,none⟩)),(2,.pointer (some ⟨r,0,none⟩)),(3,.pointer none),(8,.pointer none),(9,pT (p2 1).N 0),(10,.pointer (some ⟨(p4 0).M,0,none⟩)),(17,.bool false)]) (fun p4=>?_) (fun p4 W4 T hF hJ=>?_)
 ·refine ok_m (fun W cx=>bnew W 1 (by omega)) (by kernel_rfl) ?_
  refine okv ?_
  exact ok_nil
 replace hS:=((SymF.fm hS hF [0,1,2,3] [⟨r,#[.bool false,.slice b k0 l],54,false⟩,⟨q,#[.bool false,.slice a n c],54,false⟩,⟨p,#[.bool g0,.slice a0 n0 c0],54,true⟩,⟨(p2 1).N,#[.bool false,.slice none 0 0],54,true⟩] (by kernel_rfl) (by kernel_rfl)).add hF 0 (some 21) (cPt (false) 54 1) (by kernel_rfl) (by kernel_rfl) ((p4 0).M) #[.bool false,.slice (p4 0).A (p4 0).N (p4 0).C] 54 rfl (And.left (hF.fx 0))).fb
 replace hG:GsAt (gM 0 (p4 0).A (p4 0).N (p4 0).C 1 :: _) W4:=⟨And.right (hF.fx 0),hF.gx⟩
 clear hF hK
 have hK:=hJ
 clear hJ
 have z4:=OneBut.size hS.fr
 refine wq hS hG hK (fun p5=>[.v 22 (.agg #[.bool false,.slice none 0 0]),.n 23 #[.bool false,.slice none 0 0] 54,.v 11 (pT (p5 1).N 0)]) (fun p5=>[(0,.pointer (some ⟨p,0,none⟩)),(1,.pointer (some ⟨q,0,none⟩)),(2,.pointer (some ⟨r,0,none⟩)),(3,.pointer none),(8,.pointer none),(9,pT (p2 1).N 0),(10,.pointer (some ⟨(p4 0).M,0,none⟩)),(11,pT (p5 1).N 0),(17,.bool false)]) (fun p5=>?_) (fun p5 W5 T hF hJ=>?_)
 ·refine okv ?_
  refine okn ?_
  refine okv ?_
  exact ok_nil
 replace hS:=SymF.fc hS hF [0,1,2,3,4,1001] [⟨(p4 0).M,#[.bool false,.slice (p4 0).A (p4 0).N (p4 0).C],54,true⟩,⟨r,#[.bool false,.slice b k0 l],54,false⟩,⟨q,#[.bool false,.slice a n c],54,false⟩,⟨p,#[.bool g0,.slice a0 n0 c0],54,true⟩,⟨(p2 1).N,#[.bool false,.slice none 0 0],54,true⟩,⟨(p5 1).N,#[.bool false,.slice none 0 0],54,true⟩]
 replace hG:=hF.gx
 clear hF hK
 have hK:=hJ
 clear hJ
 have z5:=OneBut.size hS.fr
 refine wq hS hG hK (fun p6=>[.v 24 (pT (p5 1).N 0),.v 25 (.pointer (some ⟨q,0,none⟩)),.w (some 26) 5 0 [.bool false,.slice (p6 2).A (p6 2).N (p6 2).C] (fun q9=>[.bool false,.slice q9.A q9.N q9.C]) (cP (pT (p5 1).N 0) x)]) (fun p6=>[(0,.pointer (some ⟨p,0,none⟩)),(2,.pointer (some ⟨r,0,none⟩)),(3,.pointer none),(8,.pointer none),(9,pT (p2 1).N 0),(10,.pointer (some ⟨(p4 0).M,0,none⟩)),(11,pT (p5 1).N 0),(17,.bool false)]) (fun p6=>?_) (fun p6 W6 T hF hJ=>?_)
 ·iterate 2 refine okv ?_
  refine ok_W (p5 1).N #[.bool false,.slice none 0 0] 54 (fun W cx hW=>as_wp (fun s9=>[.bool false,s9]) (fun _=>rfl) (as_int hW (bset_x W _ _ _ _ _ x _ false _ _ _ hW (cx.B 2 _ rfl (by kernel_rfl) (by kernel_rfl)) (NeL.sym hS.ne 2 5 _ _ rfl rfl (Or.inr rfl) (by decide)) (cx.G.2.1) (hide fun V a8 n8 c8 h8=>bcopied_0 a8 n8 c8 _ V h8)))) (by kernel_rfl) (by kernel_rfl) (by kernel_rfl) (by kernel_rfl) (by kernel_rfl) rfl (by kernel_rfl) ?_
  exact ok_nil
 replace hS:=SymF.fc hS hF [0,1,2,3,4,5] [⟨(p4 0).M,#[.bool false,.slice (p4 0).A (p4 0).N (p4 0).C],54,true⟩,⟨r,#[.bool false,.slice b k0 l],54,false⟩,⟨q,#[.bool false,.slice a n c],54,false⟩,⟨p,#[.bool g0,.slice a0 n0 c0],54,true⟩,⟨(p2 1).N,#[.bool false,.slice none 0 0],54,true⟩,⟨(p5 1).N,#[.bool false,.slice (p6 2).A (p6 2).N (p6 2).C],54,true⟩]
 replace hG:GsAt (gM 0 (p6 2).A (p6 2).N (p6 2).C x :: _) W6:=⟨hF.fx 2,hF.gx⟩
 clear hF hK
 have hK:=hJ
 clear hJ
 have z6:=OneBut.size hS.fr
 refine wp_seq ?_
 refine wq hS hG hK (fun p7=>[.v 27 (.pointer (some ⟨r,0,none⟩)),.c (some 28) (cV (.int .i64 1)),.v 29 (.bool false)]) (fun p7=>[(0,.pointer (some ⟨p,0,none⟩)),(2,.pointer (some ⟨r,0,none⟩)),(3,.pointer none),(8,.pointer none),(9,pT (p2 1).N 0),(10,.pointer (some ⟨(p4 0).M,0,none⟩)),(11,pT (p5 1).N 0),(17,.bool false),(29,.bool false)]) (fun p7=>?_) (fun p7 W7 T hF hJ=>?_)
 ·refine okv ?_
  refine okc (fun W cx=>as_v (bsign_f W _ _ _ _ (cx.B 1 _ rfl (by kernel_rfl) (by kernel_rfl)) hk0)) ?_
  refine okv ?_
  exact ok_nil
 replace hS:=SymF.fd hS hF
 replace hG:=hF.gx
 clear hF hK
 have hK:=hJ
 clear hJ
 have z7:=OneBut.size hS.fr
 refine wp_cond_false (hK.ew 29) (wp_skip (then_n ?_))
 refine wq hS hG hK (fun p8=>[.v 43 (.pointer (some ⟨r,0,none⟩)),.v 44 (.pointer (some ⟨r,0,none⟩)),.v 45 (.pointer (some ⟨r,1,none⟩)),.l 46 (.slice b k0 l) 1 1,.c (some 47) (cM0 e fun x9=>x9),.v 12 (.slice (p8 4).A (p8 4).N (p8 4).C)]) (fun p8=>[(0,.pointer (some ⟨p,0,none⟩)),(3,.pointer none),(8,.pointer none),(9,pT (p2 1).N 0),(10,.pointer (some ⟨(p4 0).M,0,none⟩)),(11,pT (p5 1).N 0),(12,.slice (p8 4).A (p8 4).N (p8 4).C),(17,.bool false),(29,.bool false)]) (fun p8=>?_) (fun p8 W8 T hF hJ=>?_)
 ·iterate 3 refine okv ?_
  refine okl ?_
  refine okc (fun W cx=>as_0 (bcopied_0 _ _ l e W (cx.G.2.2.2.1))) ?_
  refine okv ?_
  exact ok_nil
 replace hS:=SymF.fd hS hF
 replace hG:GsAt (gM 0 (p8 4).A (p8 4).N (p8 4).C e :: _) W8:=⟨hF.fx 4,hF.gx⟩
 clear hF hK
 have hK:=hJ
 clear hJ
 have z8:=OneBut.size hS.fr
 refine wp_seq ?_
 obtain ⟨b9,hA9,hn9,hc9⟩:=one_limb hG.1 he0 he32
 replace hG:GsAt (gL b9 0 (e:Int) :: _) W8:=⟨hc9,hG⟩
 clear hc9
 refine wq hS hG hK (fun p9=>[.v 48 (.slice (p8 4).A (p8 4).N (p8 4).C),.v 49 (.int .i64 ((p8 4).N:Int)),.v 50 (.int .i64 32),.v 51 (.int .i64 31),.v 13 (.int .i64 31)]) (fun p9=>[(0,.pointer (some ⟨p,0,none⟩)),(3,.pointer none),(8,.pointer none),(9,pT (p2 1).N 0),(10,.pointer (some ⟨(p4 0).M,0,none⟩)),(11,pT (p5 1).N 0),(12,.slice (p8 4).A (p8 4).N (p8 4).C),(13,.int .i64 31),(17,.bool false),(29,.bool false)]) (fun p9=>?_) (fun p9 W9 T hF hJ=>?_)
 ·iterate 2 refine okv ?_
  refine okvi ((show IntKind.i64.wrap (32 * (((p8 4).N:Nat):Int)) = 32 by rw [hn9]; rfl)) ?_
  iterate 2 refine okv ?_
  exact ok_nil
 replace hS:=SymF.fd hS hF
 replace hG:=hF.gx
 clear hF hK
 have hK:=hJ
 clear hJ
 have z9:=OneBut.size hS.fr
 refine wp_block ?_
 have hX:∃ A9 N9 C9 v9,v9 = x ^ (e / 2 ^ 32)∧Fb (Fr0.but p w) W9 [⟨(p4 0).M,#[.bool false,.slice A9 N9 C9],54,true⟩,⟨r,#[.bool false,.slice b k0 l],54,false⟩,⟨q,#[.bool false,.slice a n c],54,false⟩,⟨p,#[.bool g0,.slice a0 n0 c0],54,true⟩,⟨(p2 1).N,#[.bool false,.slice none 0 0],54,true⟩,⟨(p5 1).N,#[.bool false,.slice (p6 2).A (p6 2).N (p6 2).C],54,true⟩]∧GsAt [gM 0 A9 N9 C9 v9,gM 0 (p6 2).A (p6 2).N (p6 2).C x,gL b9 0 (e:Int)] W9:=⟨_,_,_,1,by rw [Nat.div_eq_of_lt (by omega),Nat.pow_zero],hS,⟨hG.2.2.2.1,hG.2.2.1,hG.1,trivial⟩⟩
 clear hS hG
 obtain ⟨A9,N9,C9,v9,hv9,hS,hG⟩:=hX
 rw [← hkz] at hv9
 replace hK:Kn T _ [(0,.pointer (some ⟨p,0,none⟩)),(9,pT (p2 1).N 0),(10,.pointer (some ⟨(p4 0).M,0,none⟩)),(11,pT (p5 1).N 0),(12,.slice (p8 4).A (p8 4).N (p8 4).C),(13,.int .i64 31)]:=kn_out (ds:=[]) hK rfl rfl _ (by kernel_rfl) (by kernel_rfl)
 have h13:Value.int .i64 31 = .int .i64 (((k:Nat):Int) - 1):=by rw [hkz]; rfl
 rw [h13] at hK
 clear h13 hkz
 refine wp_loop_rounds (k+1) ?_
 clear z9
 induction k generalizing T W9 A9 N9 C9 v9 with
 | succ k ih=>
  have z9:=OneBut.size hS.fr
  have hst:=exp_step hx0 hv9
  obtain ⟨bb,hbb⟩:∃ bb:Bool,decide (e / 2 ^ k % 2 = 1) = bb:=⟨_,rfl⟩
  refine rounds_s (wp_seq ?_)
  refine wq hS hG hK (fun p10=>[.v 52 (.int .i64 ((((k+1):Nat):Int) - 1)),.v 53 (.bool true)]) (fun p10=>[(0,.pointer (some ⟨p,0,none⟩)),(9,pT (p2 1).N 0),(10,.pointer (some ⟨(p4 0).M,0,none⟩)),(11,pT (p5 1).N 0),(12,.slice (p8 4).A (p8 4).N (p8 4).C),(13,.int .i64 ((((k+1):Nat):Int) - 1)),(53,.bool true)]) (fun p10=>?_) (fun p10 W10 T hF hJ=>?_)
  ·refine okv ?_
   refine okvb (decide_eq_true (show (((k+1:Nat):Int) - 1) ≥ 0 by omega)) ?_
   exact ok_nil
  replace hS:=SymF.fc hS hF [0,1,2,3,4,5] [⟨(p4 0).M,#[.bool false,.slice A9 N9 C9],54,true⟩,⟨r,#[.bool false,.slice b k0 l],54,false⟩,⟨q,#[.bool false,.slice a n c],54,false⟩,⟨p,#[.bool g0,.slice a0 n0 c0],54,true⟩,⟨(p2 1).N,#[.bool false,.slice none 0 0],54,true⟩,⟨(p5 1).N,#[.bool false,.slice (p6 2).A (p6 2).N (p6 2).C],54,true⟩]
  replace hG:=hF.gx
  clear hF hK
  have hK:=hJ
  clear hJ
  have z10:=OneBut.size hS.fr
  refine wp_cond_true (hK.ew 53) (wp_skip ?_)
  refine then_n (wp_seq (wp_block ?_))
  refine wq hS hG hK (fun p11=>[.v 56 (.pointer (some ⟨(p4 0).M,0,none⟩)),.v 57 (.pointer (some ⟨(p4 0).M,0,none⟩)),.v 58 (.pointer (some ⟨(p4 0).M,0,none⟩)),.w (some 59) 0 0 [.bool false,.slice (p11 3).A (p11 3).N (p11 3).C] (fun q9=>[.bool false,.slice q9.A q9.N q9.C]) (cP (.pointer (some ⟨(p4 0).M,0,none⟩)) (v9 * v9))]) (fun p11=>[(0,.pointer (some ⟨p,0,none⟩)),(9,pT (p2 1).N 0),(10,.pointer (some ⟨(p4 0).M,0,none⟩)),(11,pT (p5 1).N 0),(12,.slice (p8 4).A (p8 4).N (p8 4).C),(13,.int .i64 ((((k+1):Nat):Int) - 1)),(53,.bool true)]) (fun p11=>?_) (fun p11 W11 T hF hJ=>?_)
  ·iterate 3 refine okv ?_
   refine ok_W (p4 0).M #[.bool false,.slice A9 N9 C9] 54 (fun W cx hW=>as_wp (fun s9=>[.bool false,s9]) (fun _=>rfl) (as_int hW (bmul_zz W _ _ _ _ v9 hW (Mine.num cx.G.1) hst.1 (Nat.lt_succ_of_le (num_limbs (Mine.num cx.G.1) 39 (Nat.lt_of_le_of_lt hst.2.1 hb39)))))) (by kernel_rfl) (by kernel_rfl) (by kernel_rfl) (by kernel_rfl) (by kernel_rfl) rfl (by kernel_rfl) ?_
   exact ok_nil
  replace hS:=SymF.fc hS hF [0,1,2,3,4,5] [⟨(p4 0).M,#[.bool false,.slice (p11 3).A (p11 3).N (p11 3).C],54,true⟩,⟨r,#[.bool false,.slice b k0 l],54,false⟩,⟨q,#[.bool false,.slice a n c],54,false⟩,⟨p,#[.bool g0,.slice a0 n0 c0],54,true⟩,⟨(p2 1).N,#[.bool false,.slice none 0 0],54,true⟩,⟨(p5 1).N,#[.bool false,.slice (p6 2).A (p6 2).N (p6 2).C],54,true⟩]
  replace hG:GsAt (gM 0 (p11 3).A (p11 3).N (p11 3).C (v9 * v9) :: _) W11:=⟨hF.fx 3,hF.gx⟩
  clear hF hK
  have hK:=hJ
  clear hJ
  have z11:=OneBut.size hS.fr
  refine wp_seq ?_
  refine wq hS hG hK (fun p12=>[.v 60 (.slice (p8 4).A (p8 4).N (p8 4).C),.v 61 (.int .i64 ((((k+1):Nat):Int) - 1)),.v 62 (.int .i64 0),.v 63 (.pointer (some ⟨b9,0+0,none⟩)),.g 64 (.int .u32 (e:Int)) [.int .u32 (e:Int)] [.ld ⟨b9,0+0,none⟩ (.int .u32 (e:Int))],.v 65 (.int .i64 ((((k+1):Nat):Int) - 1)),.v 66 (.int .i64 ((k:Nat):Int)),.v 67 (.int .u64 ((k:Nat):Int)),.v 68 (.int .u32 ((e / 2 ^ k:Nat):Int)),.v 69 (.int .u32 ((e / 2 ^ k % 2:Nat):Int)),.v 70 (.bool bb)]) (fun p12=>[(0,.pointer (some ⟨p,0,none⟩)),(9,pT (p2 1).N 0),(10,.pointer (some ⟨(p4 0).M,0,none⟩)),(11,pT (p5 1).N 0),(12,.slice (p8 4).A (p8 4).N (p8 4).C),(13,.int .i64 ((((k+1):Nat):Int) - 1)),(53,.bool true),(70,.bool bb)]) (fun p12=>?_) (fun p12 W12 T hF hJ=>?_)
  ·iterate 2 refine okv ?_
   refine okvi ((show IntKind.i64.wrap (Int.tdiv (((k+1:Nat):Int) - 1) 32) = 0 by rw [Int.tdiv_eq_ediv_of_nonneg (by omega),wr64 (by omega) (by omega)]; omega)) ?_
   refine ok_vr (script_ib hA9 (t:=40) (el:=74) (len:=(p8 4).N) (c:=(p8 4).C) (by kernel_rfl) (fun _=>by kernel_rfl) (by omega)) (by kernel_rfl) ?_
   refine ok_g (fun W cx=>⟨⟨cx.G.2.2.2.1,trivial⟩,rfl⟩) (by kernel_rfl) ?_
   refine okv ?_
   refine okvi ((show Int.tmod (((k+1:Nat):Int) - 1) 32 = ((k:Nat):Int) by rw [Int.tmod_eq_emod_of_nonneg (by omega)]; omega)) ?_
   refine okvi ((show IntKind.u64.wrap ((k:Nat):Int) = ((k:Nat):Int) by rw [IntKind.wrap_u64]; omega)) ?_
   refine okvi (shr_nat e k (by omega)) ?_
   refine okvi (and_one_u32 (e / 2 ^ k) (Nat.lt_of_le_of_lt (Nat.div_le_self _ _) he32)) ?_
   refine okvb ((show (((e / 2 ^ k % 2:Nat):Int) == 1) = bb from by rw [← hbb]; rcases Nat.mod_two_eq_zero_or_one (e / 2 ^ k) with e9|e9 <;> rw [e9] <;> rfl)) ?_
   exact ok_nil
  replace hS:=SymF.fc hS hF [0,1,2,3,4,5] [⟨(p4 0).M,#[.bool false,.slice (p11 3).A (p11 3).N (p11 3).C],54,true⟩,⟨r,#[.bool false,.slice b k0 l],54,false⟩,⟨q,#[.bool false,.slice a n c],54,false⟩,⟨p,#[.bool g0,.slice a0 n0 c0],54,true⟩,⟨(p2 1).N,#[.bool false,.slice none 0 0],54,true⟩,⟨(p5 1).N,#[.bool false,.slice (p6 2).A (p6 2).N (p6 2).C],54,true⟩]
  replace hG:=hF.gx
  clear hF hK
  have hK:=hJ
  clear hJ
  have z12:=OneBut.size hS.fr
  cases bb
  ·refine wp_cond_false (hK.ew 70) (wp_skip (then_n ?_))
   refine wq hS hG hK (fun p13=>[.v 75 (pT (p2 1).N 0),.v 76 (pT (p2 1).N 0),.v 77 (pT (p2 1).N 1),.l 78 (.slice none 0 0) 4 1,.v 79 (.int .i64 0),.v 80 (.bool false)]) (fun p13=>[(0,.pointer (some ⟨p,0,none⟩)),(9,pT (p2 1).N 0),(10,.pointer (some ⟨(p4 0).M,0,none⟩)),(11,pT (p5 1).N 0),(12,.slice (p8 4).A (p8 4).N (p8 4).C),(13,.int .i64 ((((k+1):Nat):Int) - 1)),(53,.bool true),(70,.bool false),(80,.bool false)]) (fun p13=>?_) (fun p13 W13 T hF hJ=>?_)
   ·iterate 3 refine okv ?_
    refine okl ?_
    iterate 2 refine okv ?_
    exact ok_nil
   replace hS:=SymF.fc hS hF [0,1,2,3,4,5] [⟨(p4 0).M,#[.bool false,.slice (p11 3).A (p11 3).N (p11 3).C],54,true⟩,⟨r,#[.bool false,.slice b k0 l],54,false⟩,⟨q,#[.bool false,.slice a n c],54,false⟩,⟨p,#[.bool g0,.slice a0 n0 c0],54,true⟩,⟨(p2 1).N,#[.bool false,.slice none 0 0],54,true⟩,⟨(p5 1).N,#[.bool false,.slice (p6 2).A (p6 2).N (p6 2).C],54,true⟩]
   replace hG:=hF.gx
   clear hF hK
   have hK:=hJ
   clear hJ
   have z13:=OneBut.size hS.fr
   refine wp_cond_false (hK.ew 80) (wp_skip ?_)
   refine inb_n (then_n ?_)
   refine wg hS hG hK (fun p14=>[.v 54 (.int .i64 ((((k+1):Nat):Int) - 1)),.v 55 (.int .i64 (((k:Nat):Int) - 1)),.v 13 (.int .i64 (((k:Nat):Int) - 1))]) (fun p14=>[(0,.pointer (some ⟨p,0,none⟩)),(9,pT (p2 1).N 0),(10,.pointer (some ⟨(p4 0).M,0,none⟩)),(11,pT (p5 1).N 0),(12,.slice (p8 4).A (p8 4).N (p8 4).C),(13,.int .i64 (((k:Nat):Int) - 1)),(53,.bool true),(70,.bool false),(80,.bool false)]) (fun p14=>?_) (fun p14 W14 T hF hJ=>?_)
   ·refine okv ?_
    refine okvi ((show IntKind.i64.wrap ((((k+1:Nat):Int) - 1) - 1) = (((k:Nat):Int) - 1) by rw [wr64 (by omega) (by omega)]; omega)) ?_
    refine okv ?_
    exact ok_nil
   replace hS:=SymF.fd hS hF
   replace hG:=hF.gx
   clear hF hK
   have hK:=hJ
   clear hJ
   have z14:=OneBut.size hS.fr
   refine then_n ?_
   replace hK:Kn T _ [(0,.pointer (some ⟨p,0,none⟩)),(9,pT (p2 1).N 0),(10,.pointer (some ⟨(p4 0).M,0,none⟩)),(11,pT (p5 1).N 0),(12,.slice (p8 4).A (p8 4).N (p8 4).C),(13,.int .i64 (((k:Nat):Int) - 1))]:=kn_out (ds:=[]) hK rfl rfl _ (by kernel_rfl) (by kernel_rfl)
   replace hG:GsAt [gM 0 (p11 3).A (p11 3).N (p11 3).C (v9 * v9),gM 0 (p6 2).A (p6 2).N (p6 2).C x,gL b9 0 (e:Int)] _:=⟨hG.1,hG.2.2.1,hG.2.2.2.1,trivial⟩
   exact ih (by omega) _ _ _ _ _ _ (hst.2.2.2.1 (by simpa using hbb)) hS hG hK
  ·refine wp_cond_true (hK.ew 70) ?_
   refine wg hS hG hK (fun p13=>[.v 71 (.pointer (some ⟨(p4 0).M,0,none⟩)),.v 72 (.pointer (some ⟨(p4 0).M,0,none⟩)),.v 73 (pT (p5 1).N 0),.w (some 74) 0 0 [.bool false,.slice (p13 3).A (p13 3).N (p13 3).C] (fun q9=>[.bool false,.slice q9.A q9.N q9.C]) (cP (.pointer (some ⟨(p4 0).M,0,none⟩)) ((v9 * v9) * x))]) (fun p13=>[(0,.pointer (some ⟨p,0,none⟩)),(9,pT (p2 1).N 0),(10,.pointer (some ⟨(p4 0).M,0,none⟩)),(11,pT (p5 1).N 0),(12,.slice (p8 4).A (p8 4).N (p8 4).C),(13,.int .i64 ((((k+1):Nat):Int) - 1)),(53,.bool true),(70,.bool true)]) (fun p13=>?_) (fun p13 W13 T hF hJ=>?_)
   ·iterate 3 refine okv ?_
    refine ok_W (p4 0).M #[.bool false,.slice (p11 3).A (p11 3).N (p11 3).C] 54 (fun W cx hW=>as_wp (fun s9=>[.bool false,s9]) (fun _=>rfl) (as_int hW (bmul_zx W _ _ _ _ (v9 * v9) _ _ _ _ x hW (Mine.num cx.G.1) (Nat.mul_pos hst.1 hst.1) (Nat.lt_succ_of_le (num_limbs (Mine.num cx.G.1) 39 (Nat.lt_of_le_of_lt hst.2.2.1 hb39))) (cx.B 5 _ rfl (by kernel_rfl) (by kernel_rfl)) (NeL.sym hS.ne 5 0 _ _ rfl rfl (Or.inl rfl) (by decide)) (Mine.num cx.G.2.2.1) hx0 (Nat.lt_succ_of_le (num_limbs (Mine.num cx.G.2.2.1) 39 hx39))))) (by kernel_rfl) (by kernel_rfl) (by kernel_rfl) (by kernel_rfl) (by kernel_rfl) rfl (by kernel_rfl) ?_
    exact ok_nil
   replace hS:=SymF.fc hS hF [0,1,2,3,4,5] [⟨(p4 0).M,#[.bool false,.slice (p13 3).A (p13 3).N (p13 3).C],54,true⟩,⟨r,#[.bool false,.slice b k0 l],54,false⟩,⟨q,#[.bool false,.slice a n c],54,false⟩,⟨p,#[.bool g0,.slice a0 n0 c0],54,true⟩,⟨(p2 1).N,#[.bool false,.slice none 0 0],54,true⟩,⟨(p5 1).N,#[.bool false,.slice (p6 2).A (p6 2).N (p6 2).C],54,true⟩]
   replace hG:GsAt (gM 0 (p13 3).A (p13 3).N (p13 3).C ((v9 * v9) * x) :: _) W13:=⟨hF.fx 3,hF.gx⟩
   clear hF hK
   have hK:=hJ
   clear hJ
   have z13:=OneBut.size hS.fr
   refine then_n ?_
   refine wq hS hG hK (fun p14=>[.v 75 (pT (p2 1).N 0),.v 76 (pT (p2 1).N 0),.v 77 (pT (p2 1).N 1),.l 78 (.slice none 0 0) 4 1,.v 79 (.int .i64 0),.v 80 (.bool false)]) (fun p14=>[(0,.pointer (some ⟨p,0,none⟩)),(9,pT (p2 1).N 0),(10,.pointer (some ⟨(p4 0).M,0,none⟩)),(11,pT (p5 1).N 0),(12,.slice (p8 4).A (p8 4).N (p8 4).C),(13,.int .i64 ((((k+1):Nat):Int) - 1)),(53,.bool true),(70,.bool true),(80,.bool false)]) (fun p14=>?_) (fun p14 W14 T hF hJ=>?_)
   ·iterate 3 refine okv ?_
    refine okl ?_
    iterate 2 refine okv ?_
    exact ok_nil
   replace hS:=SymF.fd hS hF
   replace hG:=hF.gx
   clear hF hK
   have hK:=hJ
   clear hJ
   have z14:=OneBut.size hS.fr
   refine wp_cond_false (hK.ew 80) (wp_skip ?_)
   refine inb_n (then_n ?_)
   refine wg hS hG hK (fun p15=>[.v 54 (.int .i64 ((((k+1):Nat):Int) - 1)),.v 55 (.int .i64 (((k:Nat):Int) - 1)),.v 13 (.int .i64 (((k:Nat):Int) - 1))]) (fun p15=>[(0,.pointer (some ⟨p,0,none⟩)),(9,pT (p2 1).N 0),(10,.pointer (some ⟨(p4 0).M,0,none⟩)),(11,pT (p5 1).N 0),(12,.slice (p8 4).A (p8 4).N (p8 4).C),(13,.int .i64 (((k:Nat):Int) - 1)),(53,.bool true),(70,.bool true),(80,.bool false)]) (fun p15=>?_) (fun p15 W15 T hF hJ=>?_)
   ·refine okv ?_
    refine okvi ((show IntKind.i64.wrap ((((k+1:Nat):Int) - 1) - 1) = (((k:Nat):Int) - 1) by rw [wr64 (by omega) (by omega)]; omega)) ?_
    refine okv ?_
    exact ok_nil
   replace hS:=SymF.fd hS hF
   replace hG:=hF.gx
   clear hF hK
   have hK:=hJ
   clear hJ
   have z15:=OneBut.size hS.fr
   refine then_n ?_
   replace hK:Kn T _ [(0,.pointer (some ⟨p,0,none⟩)),(9,pT (p2 1).N 0),(10,.pointer (some ⟨(p4 0).M,0,none⟩)),(11,pT (p5 1).N 0),(12,.slice (p8 4).A (p8 4).N (p8 4).C),(13,.int .i64 (((k:Nat):Int) - 1))]:=kn_out (ds:=[]) hK rfl rfl _ (by kernel_rfl) (by kernel_rfl)
   replace hG:GsAt [gM 0 (p13 3).A (p13 3).N (p13 3).C ((v9 * v9) * x),gM 0 (p6 2).A (p6 2).N (p6 2).C x,gL b9 0 (e:Int)] _:=⟨hG.1,hG.2.2.2.1,hG.2.2.2.2.1,trivial⟩
   exact ih (by omega) _ _ _ _ _ _ (hst.2.2.2.2 (by simpa using hbb)) hS hG hK
 | zero=>
  have z9:=OneBut.size hS.fr
  rw [Nat.pow_zero,Nat.div_one] at hv9
  refine rounds_s (wp_seq ?_)
  refine wq hS hG hK (fun p36=>[.v 52 (.int .i64 (((0:Nat):Int) - 1)),.v 53 (.bool false)]) (fun p36=>[(0,.pointer (some ⟨p,0,none⟩)),(9,pT (p2 1).N 0),(10,.pointer (some ⟨(p4 0).M,0,none⟩)),(11,pT (p5 1).N 0),(12,.slice (p8 4).A (p8 4).N (p8 4).C),(13,.int .i64 (((0:Nat):Int) - 1)),(53,.bool false)]) (fun p36=>?_) (fun p36 W36 T hF hJ=>?_)
  ·refine okv ?_
   refine okvb (decide_eq_false (show ¬ (((0:Nat):Int) - 1) ≥ 0 by omega)) ?_
   exact ok_nil
  replace hS:=SymF.fc hS hF [0,1,2,3,4,5] [⟨(p4 0).M,#[.bool false,.slice A9 N9 C9],54,true⟩,⟨r,#[.bool false,.slice b k0 l],54,false⟩,⟨q,#[.bool false,.slice a n c],54,false⟩,⟨p,#[.bool g0,.slice a0 n0 c0],54,true⟩,⟨(p2 1).N,#[.bool false,.slice none 0 0],54,true⟩,⟨(p5 1).N,#[.bool false,.slice (p6 2).A (p6 2).N (p6 2).C],54,true⟩]
  replace hG:=hF.gx
  clear hF hK
  have hK:=hJ
  clear hJ
  have z36:=OneBut.size hS.fr
  refine wp_cond_false (hK.ew 53) (wp_exit ?_)
  refine then_x (then_x ?_)
  refine inb_x (then_n ?_)
  refine wq hS hG hK (fun p37=>[.v 85 (.pointer (some ⟨p,0,none⟩)),.v 86 (.pointer (some ⟨(p4 0).M,0,none⟩)),.w (some 87) 3 0 [.bool false,.slice (p37 2).A (p37 2).N (p37 2).C] (fun q9=>[.bool false,.slice q9.A q9.N q9.C]) (cP (.pointer (some ⟨p,0,none⟩)) v9),.v 8 (.pointer (some ⟨p,0,none⟩))]) (fun p37=>[(0,.pointer (some ⟨p,0,none⟩)),(8,.pointer (some ⟨p,0,none⟩)),(9,pT (p2 1).N 0),(10,.pointer (some ⟨(p4 0).M,0,none⟩)),(11,pT (p5 1).N 0),(12,.slice (p8 4).A (p8 4).N (p8 4).C),(13,.int .i64 (((0:Nat):Int) - 1)),(53,.bool false)]) (fun p37=>?_) (fun p37 W37 T hF hJ=>?_)
  ·iterate 2 refine okv ?_
   refine ok_W p #[.bool g0,.slice a0 n0 c0] 54 (fun W cx hW=>as_wp (fun s9=>[.bool false,s9]) (fun _=>rfl) (as_int hW (bset_x W _ _ _ _ _ v9 _ false _ _ _ hW (cx.B 0 _ rfl (by kernel_rfl) (by kernel_rfl)) (NeL.sym hS.ne 0 3 _ _ rfl rfl (Or.inl rfl) (by decide)) (Mine.num cx.G.1) (hide fun V a8 n8 c8 h8=>bcopied_0 a8 n8 c8 _ V h8)))) (by kernel_rfl) (by kernel_rfl) (by kernel_rfl) (by kernel_rfl) (by kernel_rfl) rfl (by kernel_rfl) ?_
   refine okv ?_
   exact ok_nil
  replace hS:=SymF.fc hS hF [0,1,2,3,4,5] [⟨(p4 0).M,#[.bool false,.slice A9 N9 C9],54,true⟩,⟨r,#[.bool false,.slice b k0 l],54,false⟩,⟨q,#[.bool false,.slice a n c],54,false⟩,⟨p,#[.bool false,.slice (p37 2).A (p37 2).N (p37 2).C],54,true⟩,⟨(p2 1).N,#[.bool false,.slice none 0 0],54,true⟩,⟨(p5 1).N,#[.bool false,.slice (p6 2).A (p6 2).N (p6 2).C],54,true⟩]
  replace hG:GsAt (gM 0 (p37 2).A (p37 2).N (p37 2).C v9 :: _) W37:=⟨hF.fx 2,hF.gx⟩
  clear hF hK
  have hK:=hJ
  clear hJ
  have z37:=OneBut.size hS.fr
  refine wp_ret ?_
  exact sym_end hS hK (.pointer (some ⟨p,0,none⟩)) [] [] (by kernel_rfl) (by kernel_rfl) ⟨_,_,_,rfl,hS.fr,hS.bx _ (List.mem_cons_of_mem _ (List.mem_cons_of_mem _ (List.mem_cons_of_mem _ (List.mem_cons_self ..)))),hv9▸hG.1⟩
theorem bexp_0 (w:World) (p q r:Nat) (g0:Bool) (a0:Option Addr) (n0 c0:Nat) (a b:Option Addr) (n c k0 l x e:Nat) (hp:w.heap[p]? = some (.cells #[.bool g0,.slice a0 n0 c0] 54 (0,0))) (hq:w.heap[q]? = some (.cells #[.bool false,.slice a n c] 54 (0,0))) (hr:w.heap[r]? = some (.cells #[.bool false,.slice b k0 l] 54 (0,0))) (hqp:q≠p) (hrp:r≠p) (h1:Num w a n x) (h2:Num w b k0 e) (he0:e = 0)  :
  Calls Tryz.prog 24 #[.pointer (some ⟨p,0,none⟩),.pointer (some ⟨q,0,none⟩),.pointer (some ⟨r,0,none⟩),.pointer none] w fun en w'=>∃ A N C,en = .returned (.pointer (some ⟨p,0,none⟩))∧OneBut p w w'∧w'.heap[p]? = some (.cells #[.bool false,.slice A N C] 54 (0,0))∧Mine w' 0 A N C (x ^ e):=by
 have hk0:k0 = 0:=h2.zero.2 he0
 refine calls_sym Tryz.func24 rfl (by kernel_rfl) fun T hK=>?_
 replace hK:Kn T _ [(0,.pointer (some ⟨p,0,none⟩)),(1,.pointer (some ⟨q,0,none⟩)),(2,.pointer (some ⟨r,0,none⟩)),(3,.pointer none)]:=hK
 have hS:=Fb.rcv hp
 replace hS:=hS.more hq ⟨fun _=>hqp,trivial⟩
 replace hS:=hS.more hr ⟨fun h9=>absurd h9 (by simp),⟨fun _=>hrp,trivial⟩⟩
 have hG:GsAt [gN a n x,gN b k0 e] w:=⟨h1,h2,trivial⟩
 refine wq hS hG hK (fun p1=>[.v 8 (.pointer none)]) (fun p1=>[(0,.pointer (some ⟨p,0,none⟩)),(1,.pointer (some ⟨q,0,none⟩)),(2,.pointer (some ⟨r,0,none⟩)),(3,.pointer none),(8,.pointer none)]) (fun p1=>?_) (fun p1 W1 T hF hK=>?_)
 ·refine okv ?_
  exact ok_nil
 replace hS:=SymF.fc hS hF [0,1,2] [⟨r,#[.bool false,.slice b k0 l],54,false⟩,⟨q,#[.bool false,.slice a n c],54,false⟩,⟨p,#[.bool g0,.slice a0 n0 c0],54,true⟩]
 replace hG:=hF.gx
 clear hF
 have z1:=OneBut.size hS.fr
 refine wq hS hG hK (fun p2=>[.v 14 (.agg #[.bool false,.slice none 0 0]),.n 15 #[.bool false,.slice none 0 0] 54,.v 9 (pT (p2 1).N 0)]) (fun p2=>[(0,.pointer (some ⟨p,0,none⟩)),(1,.pointer (some ⟨q,0,none⟩)),(2,.pointer (some ⟨r,0,none⟩)),(3,.pointer none),(8,.pointer none),(9,pT (p2 1).N 0)]) (fun p2=>?_) (fun p2 W2 T hF hK=>?_)
 ·refine okv ?_
  refine okn ?_
  refine okv ?_
  exact ok_nil
 replace hS:=SymF.fc hS hF [0,1,2,1001] [⟨r,#[.bool false,.slice b k0 l],54,false⟩,⟨q,#[.bool false,.slice a n c],54,false⟩,⟨p,#[.bool g0,.slice a0 n0 c0],54,true⟩,⟨(p2 1).N,#[.bool false,.slice none 0 0],54,true⟩]
 replace hG:=hF.gx
 clear hF
 have z2:=OneBut.size hS.fr
 refine wp_seq ?_
 refine wq hS hG hK (fun p3=>[.v 16 (.pointer none),.v 17 (.bool false)]) (fun p3=>[(0,.pointer (some ⟨p,0,none⟩)),(1,.pointer (some ⟨q,0,none⟩)),(2,.pointer (some ⟨r,0,none⟩)),(3,.pointer none),(8,.pointer none),(9,pT (p2 1).N 0),(17,.bool false)]) (fun p3=>?_) (fun p3 W3 T hF hK=>?_)
 ·iterate 2 refine okv ?_
  exact ok_nil
 obtain ⟨hS,hG⟩:=SymF.fg hS hF
 clear hF
 have z3:=OneBut.size hS.fr
 refine wp_cond_false (hK.ew 17) (wp_skip (then_n ?_))
 refine wq hS hG hK (fun p4=>[.c (some 21) (cPt (false) 54 1),.v 10 (.pointer (some ⟨(p4 0).M,0,none⟩))]) (fun p4=>[(0,.pointer (some ⟨p,0,none⟩)),(1,.pointer (some ⟨q,0,none⟩)),(2,.pointer (some ⟨r,0,none⟩)),(3,.pointer none),(8,.pointer none),(9,pT (p2 1).N 0),(10,.pointer (some ⟨(p4 0).M,0,none⟩)),(17,.bool false)]) (fun p4=>?_) (fun p4 W4 T hF hK=>?_)
 ·refine ok_m (fun W cx=>bnew W 1 (by omega)) (by kernel_rfl) ?_
  refine okv ?_
  exact ok_nil
 replace hS:=((SymF.fm hS hF [0,1,2,3] [⟨r,#[.bool false,.slice b k0 l],54,false⟩,⟨q,#[.bool false,.slice a n c],54,false⟩,⟨p,#[.bool g0,.slice a0 n0 c0],54,true⟩,⟨(p2 1).N,#[.bool false,.slice none 0 0],54,true⟩] (by kernel_rfl) (by kernel_rfl)).add hF 0 (some 21) (cPt (false) 54 1) (by kernel_rfl) (by kernel_rfl) ((p4 0).M) #[.bool false,.slice (p4 0).A (p4 0).N (p4 0).C] 54 rfl (And.left (hF.fx 0))).fb
 replace hG:GsAt (gM 0 (p4 0).A (p4 0).N (p4 0).C 1 :: _) W4:=⟨And.right (hF.fx 0),hF.gx⟩
 clear hF
 have z4:=OneBut.size hS.fr
 refine wq hS hG hK (fun p5=>[.v 22 (.agg #[.bool false,.slice none 0 0]),.n 23 #[.bool false,.slice none 0 0] 54,.v 11 (pT (p5 1).N 0)]) (fun p5=>[(0,.pointer (some ⟨p,0,none⟩)),(1,.pointer (some ⟨q,0,none⟩)),(2,.pointer (some ⟨r,0,none⟩)),(3,.pointer none),(8,.pointer none),(9,pT (p2 1).N 0),(10,.pointer (some ⟨(p4 0).M,0,none⟩)),(11,pT (p5 1).N 0),(17,.bool false)]) (fun p5=>?_) (fun p5 W5 T hF hK=>?_)
 ·refine okv ?_
  refine okn ?_
  refine okv ?_
  exact ok_nil
 replace hS:=SymF.fc hS hF [0,1,2,3,4,1001] [⟨(p4 0).M,#[.bool false,.slice (p4 0).A (p4 0).N (p4 0).C],54,true⟩,⟨r,#[.bool false,.slice b k0 l],54,false⟩,⟨q,#[.bool false,.slice a n c],54,false⟩,⟨p,#[.bool g0,.slice a0 n0 c0],54,true⟩,⟨(p2 1).N,#[.bool false,.slice none 0 0],54,true⟩,⟨(p5 1).N,#[.bool false,.slice none 0 0],54,true⟩]
 replace hG:=hF.gx
 clear hF
 have z5:=OneBut.size hS.fr
 refine wq hS hG hK (fun p6=>[.v 24 (pT (p5 1).N 0),.v 25 (.pointer (some ⟨q,0,none⟩)),.w (some 26) 5 0 [.bool false,.slice (p6 2).A (p6 2).N (p6 2).C] (fun q9=>[.bool false,.slice q9.A q9.N q9.C]) (cP (pT (p5 1).N 0) x)]) (fun p6=>[(0,.pointer (some ⟨p,0,none⟩)),(2,.pointer (some ⟨r,0,none⟩)),(3,.pointer none),(8,.pointer none),(9,pT (p2 1).N 0),(10,.pointer (some ⟨(p4 0).M,0,none⟩)),(11,pT (p5 1).N 0),(17,.bool false)]) (fun p6=>?_) (fun p6 W6 T hF hK=>?_)
 ·iterate 2 refine okv ?_
  refine ok_W (p5 1).N #[.bool false,.slice none 0 0] 54 (fun W cx hW=>as_wp (fun s9=>[.bool false,s9]) (fun _=>rfl) (as_int hW (bset_x W _ _ _ _ _ x _ false _ _ _ hW (cx.B 2 _ rfl (by kernel_rfl) (by kernel_rfl)) (NeL.sym hS.ne 2 5 _ _ rfl rfl (Or.inr rfl) (by decide)) (cx.G.2.1) (hide fun V a8 n8 c8 h8=>bcopied_0 a8 n8 c8 _ V h8)))) (by kernel_rfl) (by kernel_rfl) (by kernel_rfl) (by kernel_rfl) (by kernel_rfl) rfl (by kernel_rfl) ?_
  exact ok_nil
 replace hS:=SymF.fc hS hF [0,1,2,3,4,5] [⟨(p4 0).M,#[.bool false,.slice (p4 0).A (p4 0).N (p4 0).C],54,true⟩,⟨r,#[.bool false,.slice b k0 l],54,false⟩,⟨q,#[.bool false,.slice a n c],54,false⟩,⟨p,#[.bool g0,.slice a0 n0 c0],54,true⟩,⟨(p2 1).N,#[.bool false,.slice none 0 0],54,true⟩,⟨(p5 1).N,#[.bool false,.slice (p6 2).A (p6 2).N (p6 2).C],54,true⟩]
 replace hG:GsAt (gM 0 (p6 2).A (p6 2).N (p6 2).C x :: _) W6:=⟨hF.fx 2,hF.gx⟩
 clear hF
 have z6:=OneBut.size hS.fr
 refine wp_seq ?_
 refine wq hS hG hK (fun p7=>[.v 27 (.pointer (some ⟨r,0,none⟩)),.c (some 28) (cV (.int .i64 0)),.v 29 (.bool true)]) (fun p7=>[(0,.pointer (some ⟨p,0,none⟩)),(2,.pointer (some ⟨r,0,none⟩)),(3,.pointer none),(8,.pointer none),(9,pT (p2 1).N 0),(10,.pointer (some ⟨(p4 0).M,0,none⟩)),(11,pT (p5 1).N 0),(17,.bool false),(29,.bool true)]) (fun p7=>?_) (fun p7 W7 T hF hK=>?_)
 ·refine okv ?_
  refine okc (fun W cx=>as_v (bsign_0 W _ _ _ _ _ (cx.B 1 _ rfl (by kernel_rfl) (by kernel_rfl)) hk0)) ?_
  refine okv ?_
  exact ok_nil
 obtain ⟨hS,hG⟩:=SymF.fg hS hF
 clear hF
 have z7:=OneBut.size hS.fr
 refine wp_cond_true (hK.ew 29) (wp_seq ?_)
 refine wq hS hG hK (fun p8=>[.v 30 (pT (p2 1).N 0),.v 31 (pT (p2 1).N 0),.v 32 (pT (p2 1).N 1),.l 33 (.slice none 0 0) 4 1,.v 34 (.int .i64 0),.v 35 (.bool false)]) (fun p8=>[(0,.pointer (some ⟨p,0,none⟩)),(2,.pointer (some ⟨r,0,none⟩)),(3,.pointer none),(8,.pointer none),(9,pT (p2 1).N 0),(10,.pointer (some ⟨(p4 0).M,0,none⟩)),(11,pT (p5 1).N 0),(17,.bool false),(29,.bool true),(35,.bool false)]) (fun p8=>?_) (fun p8 W8 T hF hK=>?_)
 ·iterate 3 refine okv ?_
  refine okl ?_
  iterate 2 refine okv ?_
  exact ok_nil
 obtain ⟨hS,hG⟩:=SymF.fg hS hF
 clear hF
 have z8:=OneBut.size hS.fr
 refine wp_cond_false (hK.ew 35) (wp_skip (then_n ?_))
 refine wq hS hG hK (fun p9=>[.v 40 (.pointer (some ⟨p,0,none⟩)),.v 41 (.pointer (some ⟨(p4 0).M,0,none⟩)),.w (some 42) 3 0 [.bool false,.slice (p9 2).A (p9 2).N (p9 2).C] (fun q9=>[.bool false,.slice q9.A q9.N q9.C]) (cP (.pointer (some ⟨p,0,none⟩)) 1),.v 8 (.pointer (some ⟨p,0,none⟩))]) (fun p9=>[(0,.pointer (some ⟨p,0,none⟩)),(2,.pointer (some ⟨r,0,none⟩)),(3,.pointer none),(8,.pointer (some ⟨p,0,none⟩)),(9,pT (p2 1).N 0),(10,.pointer (some ⟨(p4 0).M,0,none⟩)),(11,pT (p5 1).N 0),(17,.bool false),(29,.bool true),(35,.bool false)]) (fun p9=>?_) (fun p9 W9 T hF hK=>?_)
 ·iterate 2 refine okv ?_
  refine ok_W p #[.bool g0,.slice a0 n0 c0] 54 (fun W cx hW=>as_wp (fun s9=>[.bool false,s9]) (fun _=>rfl) (as_int hW (bset_x W _ _ _ _ _ 1 _ false _ _ _ hW (cx.B 0 _ rfl (by kernel_rfl) (by kernel_rfl)) (NeL.sym hS.ne 0 3 _ _ rfl rfl (Or.inl rfl) (by decide)) (Mine.num cx.G.2.1) (hide fun V a8 n8 c8 h8=>bcopied_0 a8 n8 c8 _ V h8)))) (by kernel_rfl) (by kernel_rfl) (by kernel_rfl) (by kernel_rfl) (by kernel_rfl) rfl (by kernel_rfl) ?_
  refine okv ?_
  exact ok_nil
 replace hS:=SymF.fc hS hF [0,1,2,3,4,5] [⟨(p4 0).M,#[.bool false,.slice (p4 0).A (p4 0).N (p4 0).C],54,true⟩,⟨r,#[.bool false,.slice b k0 l],54,false⟩,⟨q,#[.bool false,.slice a n c],54,false⟩,⟨p,#[.bool false,.slice (p9 2).A (p9 2).N (p9 2).C],54,true⟩,⟨(p2 1).N,#[.bool false,.slice none 0 0],54,true⟩,⟨(p5 1).N,#[.bool false,.slice (p6 2).A (p6 2).N (p6 2).C],54,true⟩]
 replace hG:GsAt (gM 0 (p9 2).A (p9 2).N (p9 2).C 1 :: _) W9:=⟨hF.fx 2,hF.gx⟩
 clear hF
 have z9:=OneBut.size hS.fr
 refine wp_ret ?_
 refine then_r ?_
 exact sym_end hS hK (.pointer (some ⟨p,0,none⟩)) [] [] (by kernel_rfl) (by kernel_rfl) ⟨_,_,_,rfl,hS.fr,hS.bx _ (List.mem_cons_of_mem _ (List.mem_cons_of_mem _ (List.mem_cons_of_mem _ (List.mem_cons_self ..)))),(show 1 = x ^ e by rw [he0,Nat.pow_zero])▸hG.1⟩
theorem bexp_any (w:World) (p q r:Nat) (g0:Bool) (a0:Option Addr) (n0 c0:Nat) (a b:Option Addr) (n c k0 l x e:Nat) (hp:w.heap[p]? = some (.cells #[.bool g0,.slice a0 n0 c0] 54 (0,0))) (hq:w.heap[q]? = some (.cells #[.bool false,.slice a n c] 54 (0,0))) (hr:w.heap[r]? = some (.cells #[.bool false,.slice b k0 l] 54 (0,0))) (hqp:q≠p) (hrp:r≠p) (h1:Num w a n x) (h2:Num w b k0 e) (hx0:0 < x) (he32:e < 4294967296) (hb39:x ^ e < 4294967296 ^ 39) :
  Calls Tryz.prog 24 #[.pointer (some ⟨p,0,none⟩),.pointer (some ⟨q,0,none⟩),.pointer (some ⟨r,0,none⟩),.pointer none] w fun en w'=>∃ A N C,en = .returned (.pointer (some ⟨p,0,none⟩))∧OneBut p w w'∧w'.heap[p]? = some (.cells #[.bool false,.slice A N C] 54 (0,0))∧Mine w' 0 A N C (x ^ e):=by
 rcases Nat.eq_zero_or_pos e with h|h
 ·exact bexp_0 w p q r g0 a0 n0 c0 a b n c k0 l x e hp hq hr hqp hrp h1 h2 h
 ·exact bexp_go w p q r g0 a0 n0 c0 a b n c k0 l x e hp hq hr hqp hrp h1 h2 hx0 h he32 hb39
theorem onebut_low {B p:Nat} {w w':World} (h:OneBut p w w') (hp:B≤p) (hB:B≤w.heap.size):Below B w w':=⟨h.os,h.tape,h.output,h.size,fun k hk=>h.block k (by omega) (by omega)⟩
theorem ten_pow (w w1:World) (n:Nat) (p:Nat) (hn:n≤100) (hp:w1.heap[p]? = some (.cells #[.bool false,.slice none 0 0] 54 (0,0))) (hlow:w.heap.size≤p) (hB:Below w.heap.size w w1) {q A N C r A' N' C':_} {w2 w3:World}
  (k1:Below w1.heap.size w1 w2) (k2:w1.heap.size≤q) (k3:w2.heap[q]? = some (.cells #[.bool false,.slice A N C] 54 (0,0))) (k4:Mine w2 0 A N C 10)
  (j1:Below w2.heap.size w2 w3) (j2:w2.heap.size≤r) (j3:w3.heap[r]? = some (.cells #[.bool false,.slice A' N' C'] 54 (0,0))) (j4:Mine w3 0 A' N' C' n) :
  Calls Tryz.prog 24 #[.pointer (some ⟨p,0,none⟩),.pointer (some ⟨q,0,none⟩),.pointer (some ⟨r,0,none⟩),.pointer none] w3 fun en w'=>∃ A N C,en = .returned (.pointer (some ⟨p,0,none⟩))∧Below w.heap.size w w'∧w'.heap[p]? = some (.cells #[.bool false,.slice A N C] 54 (0,0))∧Mine w' 0 A N C (10 ^ n):=by
 have hp1:=block_lt hp
 have hq1:=block_lt k3
 have hp2:w2.heap[p]? = some (.cells #[.bool false,.slice none 0 0] 54 (0,0)):=by rw [k1.block p hp1]; exact hp
 have hp3:w3.heap[p]? = some (.cells #[.bool false,.slice none 0 0] 54 (0,0)):=by rw [j1.block p (block_lt hp2)]; exact hp2
 have hq3:w3.heap[q]? = some (.cells #[.bool false,.slice A N C] 54 (0,0)):=by rw [j1.block q hq1]; exact k3
 have hb39:10 ^ n < 4294967296 ^ 39:=Nat.lt_of_le_of_lt (Nat.pow_le_pow_right (by decide) hn) (by decide)
 have B3:Below w.heap.size w w3:=gr_trans (gr_trans hB k1) j1
 have s1:=k1.size
 refine (bexp_any w3 p q r false none 0 0 _ _ _ _ _ _ 10 n hp3 hq3 j3 (by omega) (by omega) (Mine.num (k4.kept j1)) (Mine.num j4) (by decide) (by omega) hb39).mono ?_
 rintro en w' ⟨A2,N2,C2,rfl,h1,h2,h3⟩
 exact ⟨A2,N2,C2,rfl,B3.trans (onebut_low h1 hlow B3.size),h2,h3⟩
theorem two_pow_lsh (w w5:World) (m:Nat) (p z:Nat) {A N C:_} (x:Nat) (hm:m≤1000) (hpx:w5.heap[p]? = some (.cells #[.bool false,.slice A N C] 54 (0,0))) (hM:Mine w5 0 A N C x) (hpz:p≠z) (hz:w5.heap[z]? = some (.cells #[.bool false,.slice none 0 0] 54 (0,0))) (hlow:w.heap.size≤z) (hB:Below w.heap.size w w5) {q A' N' C':_} {w6:World}
  (k1:Below w5.heap.size w5 w6) (k2:w5.heap.size≤q) (k3:w6.heap[q]? = some (.cells #[.bool false,.slice A' N' C'] 54 (0,0))) (k4:Mine w6 0 A' N' C' 1) :
  Calls Tryz.prog 27 #[.pointer (some ⟨z,0,none⟩),.pointer (some ⟨q,0,none⟩),.int .u64 (m:Int)] w6 fun en w'=>en = .returned (.pointer (some ⟨z,0,none⟩))∧Below w.heap.size w w'∧Hid (∀ W,W = w'→Calls Tryz.prog 26 #[.pointer (some ⟨p,0,none⟩),.pointer (some ⟨z,0,none⟩)] W fun en w'=>en = .returned (.int .i64 (cmpI x (1 * 2 ^ m)))∧Below W.heap.size W w'):=by
 have hz6:w6.heap[z]? = some (.cells #[.bool false,.slice none 0 0] 54 (0,0)):=by rw [k1.block z (block_lt hz)]; exact hz
 have hp6:w6.heap[p]? = some (.cells #[.bool false,.slice A N C] 54 (0,0)):=by rw [k1.block p (block_lt hpx)]; exact hpx
 have hz1:=block_lt hz
 have B6:Below w.heap.size w w6:=gr_trans hB k1
 refine (blsh w6 z false none 0 0 q _ _ _ 1 m hz6 k3 (by omega) (Mine.num k4) (by omega) (by have h9:=num_limbs (Mine.num k4) 1 (by decide); omega)).mono ?_
 rintro en w' ⟨A2,N2,C2,rfl,h1,h2,h3⟩
 refine ⟨rfl,B6.trans (onebut_low h1 hlow B6.size),hide fun W e=>?_⟩
 subst e
 exact bcmp_p W p z _ _ _ _ _ _ x (1 * 2 ^ m) (by rw [h1.block p (block_lt hp6) hpz]; exact hp6) h2 (Mine.num (mine_but (hM.kept k1) h1 hz6 (by decide))) (Mine.num h3)
theorem rabove_is (w:World) (n m:Nat) (ab:Bool) (hn:n≤100) (hm:m≤1000) (hab:decide (0 < cmpI (10 ^ n) (2 ^ m)) = ab) :
  Calls Tryz.prog 17 #[.int .i64 (n:Int),.int .i64 (m:Int)] w fun en w'=>en = .returned (.bool ab)∧Below w.heap.size w w':=by
 go_enter Tryz.func17,Tryz.ntmps17
 go_wp2_with fail
 refine (bnew _ 10 (by decide)).mono ?_
 rintro e w2 ⟨q,A,N,C,rfl,k1,k2,k3,k4⟩
 go_wp2_with fail
 refine (bnew _ n (by omega)).mono ?_
 rintro e w3 ⟨r,A',N',C',rfl,j1,j2,j3,j4⟩
 go_wp2_with fail
 refine (ten_pow w (w.alloc (.cells #[.bool false,.slice none 0 0] 54)) n w.heap.size hn (by rw [heap_alloc_new]) (Nat.le_refl _) (gr_alloc _ _) k1 k2 k3 k4 j1 j2 j3 j4).mono ?_
 rintro e w4 ⟨A2,N2,C2,rfl,B4,h2,h3⟩
 clear k1 k2 k3 k4 j1 j2 j3 j4
 have HX:=hide (fun (o:Obj)=>((gr_alloc w4 o).block _ (block_lt h2)).trans h2)
 go_wp2_with fail
 refine (bnew _ 1 (by decide)).mono ?_
 rintro e w6 ⟨q,A,N,C,rfl,k1,k2,k3,k4⟩
 go_wp2_with fail
 refine (two_pow_lsh w (w4.alloc (.cells #[.bool false,.slice none 0 0] 54)) m w.heap.size w4.heap.size (10 ^ n) hm (unhide HX _) (h3.alloc _) (Nat.ne_of_lt (block_lt h2)) (by rw [heap_alloc_new]) B4.size (B4.trans ((gr_alloc w4 _).mono B4.size)) k1 k2 k3 k4).mono ?_
 rintro e w7 ⟨rfl,B7,HC⟩
 clear k1 k2 k3 k4 h2 h3 HX B4
 go_wp2_with fail
 refine (unhide HC _ rfl).mono ?_
 rintro e w8 ⟨rfl,B8⟩
 have B9:=B7.trans (B8.mono B7.size)
 clear B7 B8 HC
 go_wp2
 go_ret
 exact ⟨by rw [← hab]; rfl,B9⟩
end Go.Proofs.YtplihgoapiiigaaGreatDoor
