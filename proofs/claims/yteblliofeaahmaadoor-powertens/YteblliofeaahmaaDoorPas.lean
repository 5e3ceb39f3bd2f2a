/- Of what PowerTensRow stands on: RefParse RefSums RefQuo RefQuoW. -/
import Derived.Test.YteblliofeaahmaaDoorPao
import Derived.Test.YteblliofeaahmaaDoorPap
import Derived.Test.YteblliofeaahmaaDoorPar
import Derived.Test.YteblliofeaahmaaDoorPaq
import Derived.Test.YteblliofeaahmaaDoorPag
import Derived.Test.YteblliofeaahmaaDoorPal
namespace Go.Proofs.YteblliofeaahmaaDoor
open Go.RowKit
set_option maxHeartbeats 2000000
set_option maxRecDepth 200000
theorem Own.lim' {w:World} {base:Nat} {a:Option Addr} {n c:Nat} {xs:List Nat} (h:Own w base (.slice a n c) xs):Lim w a xs:=by
 obtain ⟨a',c',e,_,_,hl⟩:=h.lim
 rw [(Value.slice.inj e).1]; exact hl
theorem over_len {zs:List Nat} (hw:Pl.Wf zs) (hN:Pl.Norm zs) (h:16384 < zs.length):Over (Pl.val zs):=⟨by
 have:=Pl.val_le_len hw hN Pl.top
 rw [Pl.top_eq] at this ⊢
 omega⟩
theorem rfits_any (base:Nat) (a0:Option Addr) (n0 c0:Nat) (zs:List Nat) (w:World) (h:Own w base (.slice a0 n0 c0) zs) (hw:Pl.Wf zs) (hn:n0≤100000) :
  Calls Tryd.prog 49 #[.slice a0 n0 c0] w fun e w'=>Ans w' base e (Pl.val zs)∧Below w.heap.size w w':=by
 have hln:=h.len
 have HT:=hide (fun o:Obj=>rtrim_own base (.slice a0 n0 c0) zs (w.alloc o) (h.kept (gr_alloc w o)) hw)
 have hbx:=Box.made w (.slice none 0 0)
 have HBX:=hide hbx
 clear h hbx
 go_enter Tryd.func49,Tryd.ntmps49
 go_wp2_with fail
 refine (unhide HT _).mono ?_
 rintro e w1 ⟨rfl,a,n,c,ys,rfl,t1,t2,t3,t4,t5,t6⟩
 have hn2:n≤100000:=by omega
 by_cases h16:n≤16384
 ·have h16i:(n:Int)≤16384:=by omega
  have HG:=hide (gr_alloc w (.cells #[.slice none 0 0] 65))
  generalize w.alloc (.cells #[.slice none 0 0] 65) = W0 at *
  have HM:=hide (show Mine (W0.alloc (.cells #[.slice a n c] 65)) base a n c (Pl.val zs) from ⟨ys,t2,t3.kept (gr_alloc _ _),t4,t5,t6,h16⟩)
  have HX:=hide ((unhide HBX).alloc (.cells #[.slice a n c] 65))
  clear t1 t2 t3 t4 t5 t6 HT HBX hln
  go_wp2_with fail
  refine (rnat_any _ a n c _ rfl).mono ?_
  rintro e w3 ⟨rfl,rfl⟩
  have hcx:=(unhide HX).cell
  have hfx:=(unhide HX).frozen
  go_wp2
  exact bodyPost_ret (v:=.tuple #[.agg #[.slice a n c],.int .i64 0]) (by simp [results,Tryd.results49,go_sem,hcx]) rfl ⟨Or.inl ⟨_,_,_,rfl,(unhide HM).setBox (unhide HX) _⟩,(gr_trans (unhide HG) (gr_alloc _ _)).setCell (Nat.le_refl _) _⟩
 ·have h16i:(16384:Int) < (n:Int):=by omega
  have HO:=hide (t6▸over_len t4 t5 (by omega))
  have hcx:=(unhide HBX).cell
  have hfx:=(unhide HBX).frozen
  clear t1 t2 t3 t4 t5 t6 HT hln h16
  go_wp2
  exact bodyPost_ret (v:=.tuple #[.agg #[.slice none 0 0],.int .i64 4]) (by simp [results,Tryd.results49,go_sem]) rfl ⟨Or.inr ⟨rfl,unhide HO⟩,gr_alloc _ _⟩
theorem rtwo_num (a a':Option Addr) (n n' cap cap' m m':Nat) (w:World) (h:Num w a n m) (h':Num w a' n' m') :
  Calls Tryd.prog 48 #[.agg #[.slice a n cap],.agg #[.slice a' n' cap']] w fun e w'=>e = .returned (.int .i64 0)∧Below w.heap.size w w':=by
 obtain ⟨zs,kn,kl,kw,kN,kv,kb⟩:=h
 obtain ⟨ys,kn',kl',kw',kN',kv',kb'⟩:=h'
 have:=rtwo_any a a' cap cap' zs ys w (by omega) (by omega) kl kl'
 rw [kn,kn',chk2_ok (chk_ok (by omega) kN) (chk_ok (by omega) kN')] at this
 exact this
structure TwoR (w W:World) (a a':Option Addr) (n n' cap cap':Nat):Prop where
 ba:Box W w.heap.size (.slice a n cap)
 bb:Box W (w.heap.size+1) (.slice a' n' cap')
 br:Box W (w.heap.size+2) (.slice none 0 0)
 bel:Below w.heap.size w W
theorem TwoR.kept {w W W':World} {a a':Option Addr} {n n' cap cap':Nat} (h:TwoR w W a a' n n' cap cap') (hb:Below W.heap.size W W'):TwoR w W' a a' n n' cap cap':=⟨h.ba.kept hb,h.bb.kept hb,h.br.kept hb,gr_trans h.bel hb⟩
theorem TwoR.made (w:World) (a a':Option Addr) (n n' cap cap':Nat):TwoR w (((w.alloc (.cells #[.slice a n cap] 65)).alloc (.cells #[.slice a' n' cap'] 65)).alloc (.cells #[.slice none 0 0] 65)) a a' n n' cap cap':=by
 have h1:=Box.made (w.alloc (.cells #[.slice a n cap] 65)) (.slice a' n' cap')
 have h2:=Box.made ((w.alloc (.cells #[.slice a n cap] 65)).alloc (.cells #[.slice a' n' cap'] 65)) (.slice none 0 0)
 simp only [World.size_alloc] at h1 h2
 exact ⟨((Box.made w _).alloc _).alloc _,h1.alloc _,h2,gr_trans (gr_trans (gr_alloc _ _) (gr_alloc _ _)) (gr_alloc _ _)⟩
theorem rtimes_lnil (a a':Option Addr) (cap cap' ny:Nat) (w:World) (hy:ny≤40000) :
  Calls Tryd.prog 50 #[.slice a 0 cap,.slice a' ny cap'] w
   fun e w'=>TimesTo w.heap.size ny 0 e w'∧Below w.heap.size w w':=by
 have hmk:=make_limbs ((0:Int)+(ny:Int)) ny (by omega) (by omega)
 rw [Int.zero_add] at hmk
 have HR:=hide (Row.made w (List.replicate ny 0))
 go_enter Tryd.func50,Tryd.ntmps50
 go_wp2
 clear hmk
 refine wp_loop_rounds 1 ?_
 rw [rounds_succ]
 go_wp2_with fail
 refine (rtrim_at w.heap.size 0 ny ny (List.replicate ny 0) _ (by simp) (Nat.le_refl _) (by omega) (fun j hj=>by rw [Nat.zero_add]; exact (unhide HR).cell j hj)).mono ?_
 rintro e w1 ⟨rfl,n,hn,h0,h1,rfl⟩
 have hn2:n≤ny:=by simpa using hn
 have HT:=hide (rtrim_row (cap:=ny) (unhide HR) (Nat.le_refl _) (by simp; omega) (Pl.wf_replicate ny) hn (by simp) hn2 h0 h1)
 clear h0 h1 hn
 go_wp2
 go_ret
 obtain ⟨t1,t2,t3,t4,t5⟩:=unhide HT
 exact ⟨⟨n,_,rfl,hn2,t1,t2,t3,t4,t5.trans (Pl.val_replicate ny)⟩,gr_alloc _ _⟩
theorem rep_set (n i:Nat):(List.replicate n 0).set i 0 = List.replicate n 0:=by
 apply List.ext_getElem
 ·simp
 ·intro j h1 h2
  rw [List.getElem_set]
  split
  ·simp
  ·rfl
theorem rtimes_rnil (a a':Option Addr) (cap cap' nx:Nat) (w:World) (hx:nx≤40000) :
  Calls Tryd.prog 50 #[.slice a nx cap,.slice a' 0 cap'] w
   fun e w'=>TimesTo w.heap.size nx 0 e w'∧Below w.heap.size w w':=by
 have hmk:=make_limbs ((nx:Int)+(0:Int)) nx (by omega) (by omega)
 rw [Int.add_zero] at hmk
 have HR:=hide (Row.made w (List.replicate nx 0))
 go_enter Tryd.func50,Tryd.ntmps50
 go_wp2
 clear hmk
 go_loopw [6] (fun s6 wr=>∃ i:Nat,i≤nx∧s6 = .int .i64 (i:Int)∧Row wr w.heap.size (List.replicate nx 0)∧Below w.heap.size w wr) (fun s6 _=>nx - (intOf s6).toNat)
 case atStart=>exact ⟨0,Nat.zero_le _,rfl,unhide HR,gr_alloc _ _⟩
 case round=>
  obtain ⟨i,hi,rfl,hr,hbel⟩:=hrel
  by_cases hin:i < nx
  ·have hc:=hr.cell i (by simpa using hin)
   have hf:=hr.frozen i
   have hs:=hr.set i 0 (by simpa using hin)
   rw [rep_set] at hs
   have HS:=hide (And.intro hs (hbel.setCell (p:=⟨w.heap.size,i,none⟩) (Nat.le_refl _) (.int .u32 ((0:Nat):Int))))
   clear hr hbel hs hi
   go_wp2
   refine wp_loop_rounds 1 ?_
   rw [rounds_succ]
   go_wp2
   go_roundw
   case rel=>exact ⟨i+1,by omega,by go_num,(unhide HS).1,(unhide HS).2⟩
   case measure=>simp [intOf]; omega
  ·have hie:i = nx:=by omega
   subst hie
   clear hin hi
   go_wp2_with fail
   refine (rtrim_at w.heap.size 0 i i (List.replicate i 0) _ (by simp) (Nat.le_refl _) (by omega) (fun j hj=>by rw [Nat.zero_add]; exact hr.cell j hj)).mono ?_
   rintro e w1 ⟨rfl,n,hn,h0,h1,rfl⟩
   have hn2:n≤i:=by simpa using hn
   have HT:=hide (rtrim_row (cap:=i) hr (Nat.le_refl _) (by simp; omega) (Pl.wf_replicate i) hn (by simp) hn2 h0 h1)
   clear h0 h1 hn
   go_wp2
   go_ret
   obtain ⟨t1,t2,t3,t4,t5⟩:=unhide HT
   exact ⟨⟨n,_,rfl,hn2,t1,t2,t3,t4,t5.trans (Pl.val_replicate i)⟩,hbel⟩
theorem rtimes_all (a a':Option Addr) (n n' cap cap':Nat) (xs ys:List Nat) (w:World) (hn:xs.length = n) (hn':ys.length = n') (hb:n≤40000) (hb':n'≤40000) (hw:Pl.Wf xs) (hw':Pl.Wf ys) (hl:Lim w a xs) (hl':Lim w a' ys) :
  Calls Tryd.prog 50 #[.slice a n cap,.slice a' n' cap'] w fun e w'=>TimesTo w.heap.size (n+n') (Pl.val xs * Pl.val ys) e w'∧Below w.heap.size w w':=by
 rcases hl.parts with h|⟨hp,b,off,rfl,hlt,hc⟩
 ·subst h
  obtain rfl:n = 0:=by rw [← hn]; rfl
  have:=rtimes_lnil a a' cap cap' n' w hb'
  simpa [Pl.val] using this
 ·rcases hl'.parts with h|⟨hp',b',off',rfl,hlt',hc'⟩
  ·subst h
   obtain rfl:n' = 0:=by rw [← hn']; rfl
   have:=rtimes_rnil (some ⟨b,off,none⟩) a' cap cap' n w hb
   simpa [Pl.val] using this
  ·exact rtimes_some b off cap b' off' cap' n n' xs ys w (hide hn) (hide hn') hb hb' hw hw' hlt hlt' (hide (fun j hj=>hc j (by omega))) (hide (fun j hj=>hc' j (by omega)))
theorem rmul_any (a a':Option Addr) (n n' cap cap' m m':Nat) (w:World) (h:Num w a n m) (h':Num w a' n' m') :
  Calls Tryd.prog 26 #[.agg #[.slice a n cap],.agg #[.slice a' n' cap']] w fun e w'=>Ans w' w.heap.size e (m * m')∧Below w.heap.size w w':=by
 have HK:=hide (fun (o1 o2 o3:Obj)=>rtwo_num a a' n n' cap cap' m m' (((w.alloc o1).alloc o2).alloc o3) (((h.alloc _).alloc _).alloc _) (((h'.alloc _).alloc _).alloc _))
 have H:=hide (And.intro h h')
 clear h h'
 go_enter Tryd.func26,Tryd.ntmps26
 go_wp2_with fail
 refine (unhide HK _ _ _).mono ?_
 rintro e w1 ⟨rfl,hb1⟩
 have HT:=hide ((TwoR.made w a a' n n' cap cap').kept hb1)
 have hs1:=(unhide HT).bel.size
 have hca:=(unhide HT).ba.cell
 have hcb:=(unhide HT).bb.cell
 have HP:Hid (Calls Tryd.prog 50 #[.slice a n cap,.slice a' n' cap'] w1 fun e w'=>TimesTo w1.heap.size (n+n') (m * m') e w'∧Below w1.heap.size w1 w'):=hide (by
  obtain ⟨xs,hn,hl,hw,hN,hv,hb⟩:=(unhide H).1.kept (unhide HT).bel
  obtain ⟨ys,hn',hl',hw',hN',hv',hb'⟩:=(unhide H).2.kept (unhide HT).bel
  rw [← hv,← hv']
  exact rtimes_all a a' n n' cap cap' xs ys w1 hn hn' (by omega) (by omega) hw hw' hl hl')
 have HOV:Hid (16385 < n+n'→Over (m * m')):=hide (fun hgt=>by
  obtain ⟨xs,hn,hl,hw,hN,hv,hb⟩:=(unhide H).1
  obtain ⟨ys,hn',hl',hw',hN',hv',hb'⟩:=(unhide H).2
  rw [← hv,← hv']
  exact pow_le_mul hN hN' (by omega) (by omega) (by omega))
 have hbn:n≤16384∧n'≤16384:=by
  obtain ⟨xs,_,_,_,_,_,hb⟩:=(unhide H).1
  obtain ⟨ys,_,_,_,_,_,hb'⟩:=(unhide H).2
  exact ⟨hb,hb'⟩
 obtain ⟨hbn1,hbn2⟩:=hbn
 clear hb1 HK
 by_cases hbig:16385 < n+n'
 ·have hbi:(16385:Int) < (n:Int)+(n':Int):=by omega
  have HO:=hide (unhide HOV hbig)
  have hcx:=(unhide HT).br.cell
  have hfx:=(unhide HT).br.frozen
  clear hbig HP HOV
  go_wp2
  exact bodyPost_ret (v:=.tuple #[.agg #[.slice none 0 0],.int .i64 4]) (by simp [results,Tryd.results26,go_sem,hcx]) rfl ⟨Or.inr ⟨rfl,unhide HO⟩,(unhide HT).bel.setCell (Nat.le_add_right _ 2) _⟩
 ·have hbi:(n:Int)+(n':Int)≤16385:=by omega
  clear HOV hbig
  go_wp2_with fail
  refine (unhide HP).mono ?_
  rintro e w2 ⟨⟨pn,ps,rfl,p1,p2,p3,p4,p5,p6⟩,hb2⟩
  have HF:=hide (rfits_any w1.heap.size _ pn (n+n') ps w2 p3 p4 (by omega))
  rw [p6] at HF
  have HT2:=hide ((unhide HT).kept hb2)
  clear p1 p2 p3 p4 p5 p6 hb2 HP hca hcb HT
  go_wp2_with fail
  refine (unhide HF).mono ?_
  rintro e w3 ⟨hA,hb3⟩
  have HT3:=hide ((unhide HT2).kept hb3)
  have hcx:=(unhide HT3).br.cell
  have hfx:=(unhide HT3).br.frozen
  rcases hA with ⟨fa,fn,fc,rfl,hM⟩|⟨rfl,hO⟩
  ·have HM:=hide (hM.mono (base':=w.heap.size) hs1)
   clear hM hb3 HF HT2
   go_wp2
   exact bodyPost_ret (v:=.tuple #[.agg #[.slice fa fn fc],.int .i64 0]) (by simp [results,Tryd.results26,go_sem,hcx]) rfl ⟨Or.inl ⟨_,_,_,rfl,(unhide HM).setBox (unhide HT3).br _⟩,(unhide HT3).bel.setCell (Nat.le_add_right _ 2) _⟩
  ·have HO:=hide hO
   clear hO hb3 HF HT2
   go_wp2
   exact bodyPost_ret (v:=.tuple #[.agg #[.slice none 0 0],.int .i64 4]) (by simp [results,Tryd.results26,go_sem,hcx]) rfl ⟨Or.inr ⟨rfl,unhide HO⟩,(unhide HT3).bel.setCell (Nat.le_add_right _ 2) _⟩
theorem rsub_any (a a':Option Addr) (n n' cap cap' m m':Nat) (w:World) (h:Num w a n m) (h':Num w a' n' m') :
  Calls Tryd.prog 58 #[.agg #[.slice a n cap],.agg #[.slice a' n' cap']] w fun e w'=>SubAns w' w.heap.size e m m'∧Below w.heap.size w w':=by
 have HK:=hide (fun (o1 o2 o3:Obj)=>rtwo_num a a' n n' cap cap' m m' (((w.alloc o1).alloc o2).alloc o3) (((h.alloc _).alloc _).alloc _) (((h'.alloc _).alloc _).alloc _))
 have H:=hide (And.intro h h')
 clear h h'
 go_enter Tryd.func58,Tryd.ntmps58
 go_wp2_with fail
 refine (unhide HK _ _ _).mono ?_
 rintro e w1 ⟨rfl,hb1⟩
 have HT:=hide ((TwoR.made w a a' n n' cap cap').kept hb1)
 have hs1:=(unhide HT).bel.size
 have hca:=(unhide HT).ba.cell
 have hcb:=(unhide HT).bb.cell
 clear hb1 HK
 go_wp2_with fail
 refine (rcmp_all a a' n n' cap cap' m m' w1 ((unhide H).1.kept (unhide HT).bel) ((unhide H).2.kept (unhide HT).bel)).mono ?_
 rintro e w2 ⟨rfl,hb2⟩
 have HT2:=hide ((unhide HT).kept hb2)
 have hcx:=(unhide HT2).br.cell
 have hfx:=(unhide HT2).br.frozen
 clear hb2 HT hca hcb
 by_cases hlt:m < m'
 ·rw [cmpI_lt hlt]
  have HLT:=hide hlt
  clear hlt
  go_wp2
  exact bodyPost_ret (v:=.tuple #[.agg #[.slice none 0 0],.bool false,.int .i64 0]) (by simp [results,Tryd.results58,go_sem,hcx]) rfl ⟨Or.inl ⟨unhide HLT,rfl⟩,(unhide HT2).bel.setCell (Nat.le_add_right _ 2) _⟩
 ·have hcg:=cmp_ge (show m'≤m by omega)
  have HP:Hid (Calls Tryd.prog 88 #[.slice a n cap,.slice a' n' cap'] w2 fun e w'=>LessTo w2.heap.size n (m - m') e w'∧Below w2.heap.size w2 w'):=hide (by
   obtain ⟨xs,hn,hl,hw,hN,hv,hb⟩:=(unhide H).1.kept (unhide HT2).bel
   obtain ⟨ys,hn',hl',hw',hN',hv',hb'⟩:=(unhide H).2.kept (unhide HT2).bel
   rw [← hv,← hv']
   refine rless_list a a' n n' cap cap' xs ys w2 hn hn' hl hl' hw hw' ?_ (by omega) (hide (by omega))
   by_cases hnn:n'≤n
   ·exact hnn
   ·have:=cmp_len hw hN' (show xs.length < ys.length by omega)
    omega)
  have hbn:n≤16384:=by
   obtain ⟨xs,_,_,_,_,_,hb⟩:=(unhide H).1
   exact hb
  have HLE:=hide (show m'≤m by omega)
  have hca:=(unhide HT2).ba.cell
  have hcb:=(unhide HT2).bb.cell
  have hs2:=(unhide HT2).bel.size
  clear hlt hcx hfx
  go_wp2_with fail
  refine (unhide HP).mono ?_
  rintro e w3 ⟨⟨pa,pn,pc,ps,rfl,p1,p2,p3,p4,p5,p6⟩,hb3⟩
  have HM:=hide (show Mine (w3.alloc (.cells #[.slice pa pn pc] 65)) w.heap.size pa pn pc (m - m') from ⟨ps,p2,(p3.mono hs2).kept (gr_alloc _ _),p4,p5,p6,by omega⟩)
  have HT3:=hide (((unhide HT2).kept hb3).kept (gr_alloc w3 (.cells #[.slice pa pn pc] 65)))
  clear p1 p2 p3 p4 p5 p6 hb3 HP hca hcb HT2
  go_wp2_with fail
  refine (rnat_any _ pa pn pc _ rfl).mono ?_
  rintro e w4 ⟨rfl,rfl⟩
  have hcx:=(unhide HT3).br.cell
  have hfx:=(unhide HT3).br.frozen
  go_wp2
  exact bodyPost_ret (v:=.tuple #[.agg #[.slice pa pn pc],.bool true,.int .i64 0]) (by simp [results,Tryd.results58,go_sem,hcx]) rfl ⟨Or.inr ⟨unhide HLE,_,_,_,rfl,(unhide HM).setBox (unhide HT3).br _⟩,(unhide HT3).bel.setCell (Nat.le_add_right _ 2) _⟩
structure QSt (w wr:World) (rv:Value) (L R V:Nat):Prop where
 r:∃ rs,Own wr (w.heap.size+1) rv rs∧Pl.Wf rs∧Pl.Norm rs∧Pl.val rs = R
 q:∃ qs,Row wr w.heap.size qs∧qs.length = L∧Pl.Wf qs∧Pl.val qs = V
 fr:Below w.heap.size w wr
 sz:w.heap.size+1≤wr.heap.size
theorem QSt.kept {w wr w':World} {rv:Value} {L R V:Nat} (h:QSt w wr rv L R V) (hb:Below wr.heap.size wr w'):QSt w w' rv L R V:=by
 obtain ⟨⟨rs,h1,h2⟩,⟨qs,h3,h4⟩,h5,h6⟩:=h
 exact ⟨⟨rs,h1.kept hb,h2⟩,⟨qs,h3.kept hb,h4⟩,gr_trans h5 hb,Nat.le_trans h6 hb.size⟩
theorem QSt.num {w wr:World} {a:Option Addr} {n c L R V k:Nat} (h:QSt w wr (.slice a n c) L R V) (hk:k≤16384) (hR:R < 4294967296 ^ k):Num wr a n R∧n≤k:=by
 obtain ⟨⟨rs,h1,h2,h3,h4⟩,_,_,_⟩:=h
 have hl:=h1.len
 have:=(Pl.val_le_len h2 h3 k).2 (by rw [h4]; exact hR)
 exact ⟨⟨rs,hl,h1.lim',h2,h3,h4,by omega⟩,by omega⟩
theorem QSt.dbl {w wr:World} {a:Option Addr} {n c L R V bit k:Nat} (h:QSt w wr (.slice a n c) L R V) (hbit:bit≤1) (hk:k≤16384) (hR:R < 4294967296 ^ k) :
  Calls Tryd.prog 107 #[.slice a n c,.int .u32 (bit:Int)] wr fun e w'=>∃ a' n' c',e = .returned (.slice a' n' c')∧QSt w w' (.slice a' n' c') L (2 * R+bit) V:=by
 have hn:=(h.num hk hR).2
 obtain ⟨⟨rs,h1,h2,h3,rfl⟩,⟨qs,h5,h6⟩,h7,h8⟩:=h
 refine (rdouble_any (w.heap.size+1) a n c bit rs wr h1 h2 h3 (by omega) h8 hbit).mono ?_
 rintro e w' ⟨⟨a',n',c',zs,rfl,k1,_,k3,k4,k5⟩,hb⟩
 obtain ⟨tl,h5⟩:=h5
 exact ⟨a',n',c',rfl,⟨zs,k1,k3,k4,k5⟩,⟨qs,⟨tl,by rw [hb.block _ (by omega)]; exact h5⟩,h6⟩,h7.trans ⟨hb.os,hb.tape,hb.output,hb.size,fun q hq=>hb.block q (by omega)⟩,Nat.le_trans h8 hb.size⟩
theorem QSt.less {w wr:World} {a a':Option Addr} {n c n' c' L R V d k:Nat} (h:QSt w wr (.slice a n c) L R V) (hd:Num wr a' n' d) (hle:d≤R) (hk:k≤16384) (hR:R < 4294967296 ^ k) :
  Calls Tryd.prog 88 #[.slice a n c,.slice a' n' c'] wr fun e w'=>∃ a1 n1 c1,e = .returned (.slice a1 n1 c1)∧QSt w w' (.slice a1 n1 c1) L (R - d) V:=by
 have hn:=(h.num hk hR).2
 have H:=h
 obtain ⟨⟨rs,h1,h2,h3,rfl⟩,_,_,h8⟩:=h
 obtain ⟨ys,e1,e2,e3,e4,rfl,e6⟩:=hd
 have hl:=h1.len
 have hnn:n'≤n:=by
  have:=(Pl.val_le_len e3 e4 n).2 (Nat.lt_of_le_of_lt hle (by rw [← hl]; exact Pl.val_lt h2))
  omega
 refine (rless_list a a' n n' c c' rs ys wr hl e1 h1.lim' e2 h2 e3 hnn (by omega) (hide hle)).mono ?_
 rintro e w' ⟨⟨a1,n1,c1,zs,rfl,_,_,k1,k2,k3,k4⟩,hb⟩
 have H2:=H.kept hb
 exact ⟨a1,n1,c1,rfl,⟨zs,k1.mono (by omega),k2,k3,k4⟩,H2.q,H2.fr,H2.sz⟩
theorem QSt.put {w wr:World} {rv:Value} {L R X i:Nat} (h:QSt w wr rv L R (2 * X * 2 ^ i)) (hi:i / 32 < L) :
  ∃ q z:Nat,wr.cell? ⟨w.heap.size,i / 32,none⟩ = some (.int .u32 (q:Int))∧wr.frozen? ⟨w.heap.size,i / 32,none⟩ = false∧Go.bits .or .u32 (q:Int) ((2 ^ (i % 32):Nat):Int) = (z:Int) ∧
   QSt w (wr.setCell ⟨w.heap.size,i / 32,none⟩ (.int .u32 (z:Int))) rv L R ((2 * X+1) * 2 ^ i):=by
 obtain ⟨⟨rs,h1,h2⟩,⟨qs,h5,h6,h7,h8⟩,h9,h10⟩:=h
 obtain ⟨k1,k2,k3⟩:=put_bit h7 (by omega) h8
 exact ⟨_,_,h5.cell _ (by omega),h5.frozen _,k1,⟨rs,h1.set (p:=⟨w.heap.size,i / 32,none⟩) (show w.heap.size < w.heap.size+1 by omega) _,h2⟩,⟨_,h5.set _ _ (by omega),by rw [List.length_set]; exact h6,k2,k3⟩,h9.setCell (p:=⟨w.heap.size,i / 32,none⟩) (Nat.le_refl _) _,by simp [World.setCell]; exact h10⟩
def QuoTo (base m d:Nat) (e:Ending) (w':World):Prop:=
 ∃ a1 n1 c1 a2 n2 c2,e = .returned (.tuple #[.slice a1 n1 c1,.slice a2 n2 c2])∧Mine w' base a1 n1 c1 (m / d)∧Mine w' base a2 n2 c2 (m % d)
theorem QSt.done {w wr:World} {a:Option Addr} {n c L R X m d k:Nat} (h:QSt w wr (.slice a n c) L R (X * 2 ^ 0)) (hL:L≤16384) (hm:m / 2 ^ 0 = X * d+R) (hR:R < d) (hk0:k≤16384) (hk:R < 4294967296 ^ k) :
  Calls Tryd.prog 52 #[.slice (some ⟨w.heap.size,0,none⟩) L L] wr fun e w'=>wr = w'∧∃ a1 n1 c1,e = .returned (.slice a1 n1 c1)∧QuoTo w.heap.size m d (.returned (.tuple #[.slice a1 n1 c1,.slice a n c])) wr:=by
 have hn:=Nat.le_trans (h.num hk0 hk).2 hk0
 obtain ⟨⟨rs,h1,h2,h3,rfl⟩,⟨qs,h5,h6,h7,h8⟩,h9,h10⟩:=h
 have hO:Own wr w.heap.size (.slice (some ⟨w.heap.size,0,none⟩) L L) qs:=by
  have:=h5.own (Nat.le_refl w.heap.size) L L (Nat.le_refl _) (by omega) (by omega)
  rwa [List.take_of_length_le (by omega)] at this
 refine (rtrim_own w.heap.size _ qs wr hO h7).mono ?_
 rintro e w' ⟨rfl,a1,n1,c1,ys,rfl,k1,k2,k3,k4,k5,k6⟩
 rw [Nat.pow_zero,Nat.div_one] at hm
 rw [h8,Nat.pow_zero,Nat.mul_one] at k6
 have hq:m / d = X:=by rw [hm,Nat.mul_comm,Nat.mul_add_div (by omega),Nat.div_eq_of_lt hR,Nat.add_zero]
 have hr:m % d = Pl.val rs:=by rw [hm,Nat.mul_comm,Nat.mul_add_mod]; exact Nat.mod_eq_of_lt hR
 refine ⟨rfl,a1,n1,c1,rfl,a1,n1,c1,a,n,c,rfl,⟨ys,k2,k3,k4,k5,k6.trans hq.symm,by omega⟩,⟨rs,h1.len,h1.mono (by omega),h2,h3,hr.symm,hn⟩⟩
theorem bl_div {m d ka kb N:Nat} (ha:Bl m ka) (hb:Bl d kb) (hN:ka = kb+N) (hk:0 < kb):m / 2 ^ N < 2 * d:=by
 obtain ⟨h1,_⟩:=ha
 obtain ⟨_,h2⟩:=hb
 have h3:2 ^ (kb - 1)≤d:=by rcases h2 with h|h; omega; exact h
 have h4:m / 2 ^ N < 2 ^ kb:=by rw [Nat.div_lt_iff_lt_mul (Nat.pow_pos (by decide)),← Nat.pow_add,← hN]; exact h1
 have h5:2 ^ kb = 2 * 2 ^ (kb - 1):=by
  obtain ⟨k,rfl⟩:∃ k,kb = k+1:=⟨kb - 1,by omega⟩
  rw [Nat.add_sub_cancel,Nat.pow_succ,Nat.mul_comm]
 omega
theorem two_mod {pt:Nat} (h:pt < 32):(2:Int) ^ pt % 4294967296 = ((2 ^ pt:Nat):Int):=by
 have h1:2 ^ pt≤2 ^ 31:=Nat.pow_le_pow_right (by decide) (by omega)
 have h2:(2:Int) ^ pt = ((2 ^ pt:Nat):Int):=by rw [Int.natCast_pow]; rfl
 rw [h2]
 clear h2
 generalize 2 ^ pt = z at *
 omega
theorem qge {M X d R:Nat} (h:M = 2 * X * d+R) (hge:d≤R):M = (2 * X+1) * d+(R - d):=by
 rw [Nat.add_mul,Nat.one_mul]; omega
theorem lim_cell {w:World} {a:Option Addr} {n m:Nat} (h:Num w a n m) (hm:0 < m):∃ b off xs,a = some ⟨b,off,none⟩∧Pl.Wf xs∧Pl.val xs = m∧xs.length = n∧b < w.heap.size∧∀ j,j < n→w.cell? ⟨b,off+j,none⟩ = some (.int .u32 ((xs[j]?.getD 0:Nat):Int)):=by
 obtain ⟨xs,h1,h2,h3,h4,h5,h6⟩:=h
 rcases h2.parts with hx|⟨hp,b,off,rfl,hlt,hc⟩
 ·subst hx; rw [← h5] at hm; exact absurd hm (by decide)
 ·exact ⟨b,off,xs,rfl,h3,h5,h1,hlt,fun j hj=>hc j (by omega)⟩
theorem rquo_any (a a':Option Addr) (n n' cap cap' m d:Nat) (w:World) (h:Num w a n m) (h':Num w a' n' d) (hd:0 < d) (ka kb N:Nat) (hka:Bl m ka) (hkb:Bl d kb) (hkn:ka≤32 * n) (hN:ka = kb+N) (hm:0 < m)
  (hsa:∀ W:World,Num W a n m→Calls Tryd.prog 55 #[.slice a n cap] W fun e w'=>e = .returned (.int .i64 (ka:Int))∧W = w')
  (hsb:∀ W:World,Num W a' n' d→Calls Tryd.prog 55 #[.slice a' n' cap'] W fun e w'=>e = .returned (.int .i64 (kb:Int))∧W = w') :
  Calls Tryd.prog 86 #[.slice a n cap,.slice a' n' cap'] w fun e w'=>QuoTo w.heap.size m d e w'∧Below w.heap.size w w':=by
 have hk0:0 < kb:=by rcases Nat.eq_zero_or_pos kb with h0|h0; (subst h0; have:=hkb.1; omega); exact h0
 have hml:m < 4294967296 ^ Pl.top:=h.lt
 have htop:Pl.top≤16384:=by rw [Pl.top_eq]; omega
 have HTOP:=hide htop
 have hn16:=h.len
 have hsub:(ka:Int) - (kb:Int) = (N:Int):=by omega
 have hN2:=bl_div hka hkb hN hk0
 obtain ⟨L,hL⟩:∃ L,L = N / 32+1:=⟨_,rfl⟩
 have hL2:L≤16384:=by omega
 obtain ⟨N3,hN3⟩:∃ N3,N3 = N / 32:=⟨_,rfl⟩
 have hNq:(N:Int) / 32 = (N3:Int):=by omega
 have hmk:=make_limbs ((N3:Int)+1) L (by omega) (by omega)
 clear hN3
 obtain ⟨ba,oa,xs,rfl,hxw,hxv,hxl,hba,hxc⟩:=lim_cell h hm
 have HA:=hide h
 have HB:=hide h'
 have HSA:=hide (hsa w h)
 have HSB:=hide (hsb w h')
 have HDN:=hide (fun (W:World) (hl:Lim W (some ⟨ba,oa,none⟩) xs)=>rdown_list (some ⟨ba,oa,none⟩) n cap (N / 32) (N % 32) N xs W hxl hl hxw hn16 (hide (by omega)) (Nat.mod_lt _ (by decide)) (by omega))
 have HLX:=hide (show Lim w (some ⟨ba,oa,none⟩) xs from Or.inr ⟨ba,oa,rfl,fun j hj=>hxc j (by omega)⟩)
 have HXC:=hide hxc
 have HML:=hide hml
 have HN2:=hide hN2
 have HKA:=hide (show ka≤32 * n∧N < ka from ⟨hkn,by omega⟩)
 have HLL:=hide hL
 have HL2:=hide hL2
 have HDD:=hide hd
 have hka1:ka≤524288:=by omega
 have hkb1:kb≤524288:=by omega
 have hN1:N≤524288:=by omega
 have HBA:=hide hba
 have HXV:=hide hxv
 have HXW:=hide hxw
 have HN:=hide hN
 have HK0:=hide hk0
 have HN16:=hide hn16
 clear h h' hsa hsb hka hkb hkn hml hN2 hxc hL2 hd hm hN hk0 hn16 hL hba hxl htop hxv hxw
 go_enter Tryd.func86,Tryd.ntmps86
 go_wp2_with fail
 refine (unhide HSA).mono ?_
 rintro e w1 ⟨rfl,rfl⟩
 go_wp2_with fail
 refine (unhide HSB).mono ?_
 rintro e w1 ⟨rfl,rfl⟩
 clear HSA HSB
 go_wp2_with fail
 refine (unhide HDN _ ((unhide HLX).alloc _)).mono ?_
 rintro e w1 ⟨⟨ra,rn,rc,rfl,hr⟩,hb1⟩
 have hS0:QSt w w1 (.slice ra rn rc) L (m / 2 ^ N) 0:=by
  obtain ⟨rs,r1,r2,r3,r4,r5,_⟩:=hr
  rw [unhide HXV] at r5
  have hro:=(Row.made w (List.replicate L 0)).kept hb1
  refine ⟨⟨rs,r2.mono (by simp),r3,r4,r5⟩,⟨_,hro,by simp,Pl.wf_replicate L,Pl.val_replicate L⟩,gr_trans (gr_alloc w _) hb1,?_⟩
  have:=hb1.size; simp at this; omega
 have HS0:=hide hS0
 clear hr hb1 hS0 hmk HDN hNq hsub hka1 hkb1
 go_wp2
 go_loopw [9,10] (fun s9 s10 wr=>∃ (j X R:Nat) (ra:Option Addr) (rn rc:Nat),j≤N+1∧s10 = .int .i64 ((j:Int) - 1)∧s9 = .slice ra rn rc∧Hid (QSt w wr (.slice ra rn rc) L R (X * 2 ^ j)∧((j = N+1∧X = 0∧R = m / 2 ^ N)∨(j≤N∧m / 2 ^ j = X * d+R∧R < d)))) (fun _ s10 _=>(intOf s10+1).toNat)
 case atStart=>exact ⟨N+1,0,m / 2 ^ N,ra,rn,rc,Nat.le_refl _,by go_num,rfl,hide ⟨by rw [Nat.zero_mul]; exact unhide HS0,Or.inl ⟨rfl,rfl,rfl⟩⟩⟩
 case round=>
  obtain ⟨j,X,R,ra,rn,rc,hj,rfl,rfl,HS⟩:=hrel
  rcases Nat.eq_zero_or_pos j with hj0|hj0
  ·subst hj0
   obtain ⟨hS,hc⟩:=unhide HS
   obtain ⟨hc1,hc2⟩:m / 2 ^ 0 = X * d+R∧R < d:=by rcases hc with ⟨h0,_⟩|⟨_,h1,h2⟩; omega; exact ⟨h1,h2⟩
   have hRm:R≤m:=by rw [Nat.pow_zero,Nat.div_one] at hc1; omega
   have HT:=hide (hS.done (unhide HL2) hc1 hc2 (unhide HTOP) (Nat.lt_of_le_of_lt hRm (unhide HML)))
   have HB9:=hide hS.fr
   clear HS hS hc hc1 hc2 hRm
   go_wp2_with fail
   refine (unhide HT).mono ?_
   rintro e w2 ⟨rfl,a1,n1,c1,rfl,hQ⟩
   have HQ:=hide hQ
   clear hQ HT
   go_wp2
   go_ret2
   exact ⟨unhide HQ,unhide HB9⟩
  ·obtain ⟨i,rfl⟩:∃ i,j = i+1:=⟨j - 1,by omega⟩
   have hii:((i+1:Nat):Int) - 1 = (i:Int):=by omega
   rw [hii]
   obtain ⟨hS,hc⟩:=unhide HS
   obtain ⟨wh,hwh⟩:∃ wh,wh = i / 32:=⟨_,rfl⟩
   obtain ⟨pt,hpt⟩:∃ pt,pt = i % 32:=⟨_,rfl⟩
   have hq:(i:Int) / 32 = (wh:Int):=by omega
   have hr:(i:Int) % 32 = (pt:Int):=by omega
   have hpt2:pt < 32:=by omega
   have HWH:=hide hwh
   have HPT:=hide hpt
   rcases hc with ⟨h1,h2,h3⟩|⟨h1,h2,h3⟩
   ·obtain rfl:i = N:=by omega
    subst h2
    have hS':QSt w wr (.slice ra rn rc) L R (2 * 0 * 2 ^ i):=by simpa using hS
    have hR2:R < 2 * d:=by rw [h3]; exact unhide HN2
    have hRm:R≤m:=by rw [h3]; exact Nat.div_le_self _ _
    have hmi:m / 2 ^ i = 2 * 0 * d+R:=by rw [h3]; simp
    clear HS hS h3 hj
    have hiN:wh < L:=by have:=unhide HLL; omega
    clear hwh hpt
    have HNR:=hide (hS'.num (unhide HTOP) (Nat.lt_of_le_of_lt hRm (unhide HML))).1
    have HNB:=hide ((unhide HB).kept hS'.fr)
    have HC:=hide (rcmp_all ra a' rn n' rc cap' R d wr (unhide HNR) (unhide HNB))
    have HS1:=hide hS'
    have HMI:=hide hmi
    have HR2:=hide hR2
    have HRM:=hide hRm
    have HIN:=hide hiN
    clear hS' hmi hR2 hRm hiN
    go_wp2_with fail
    refine (unhide HC).mono ?_
    rintro e w3 ⟨rfl,hb3⟩
    have HS3:=hide ((unhide HS1).kept hb3)
    have HNB3:=hide ((unhide HNB).kept hb3)
    clear hb3 HC HS1 HNB HNR
    by_cases hge:d≤R
    ·have hcm:(cmpI R d ≥ 0) = True:=by simp [cmpI]; split <;> (try split) <;> omega
     have HLS:=hide ((unhide HS3).less (c':=cap') (unhide HNB3) hge (unhide HTOP) (Nat.lt_of_le_of_lt (unhide HRM) (unhide HML)))
     go_wp2_with fail
     refine (unhide HLS).mono ?_
     rintro e w4 ⟨a1,n1,c1,rfl,hS4⟩
     have hwi:wh = i / 32:=unhide HWH
     have hpi:pt = i % 32:=unhide HPT
     obtain ⟨q,z,p1,p2,p3,p4⟩:=hS4.put (by rw [← hwi]; exact unhide HIN)
     rw [← hwi] at p1 p2 p4
     rw [← hpi] at p3
     have HP4:=hide p4
     have hin:=unhide HIN
     clear hS4 p4 hwi hpi HLS HS3 HNB3
     go_wp2
     go_roundw
     case rel=>
      rw [two_mod hpt2,p3]
      exact ⟨i,2 * 0+1,R - d,a1,n1,c1,by omega,rfl,rfl,hide ⟨unhide HP4,Or.inr ⟨by omega,qge (unhide HMI) hge,by have:=unhide HR2; omega⟩⟩⟩
     case measure=>simp [intOf]
    ·have hcm:(cmpI R d ≥ 0) = False:=by simp [cmpI]; split <;> (try split) <;> omega
     have hlt:R < d:=by omega
     have HLT:=hide hlt
     clear hge hlt
     go_wp2
     go_roundw
     case rel=>exact ⟨i,2 * 0,R,_,_,_,by omega,rfl,rfl,hide ⟨unhide HS3,Or.inr ⟨by omega,unhide HMI,unhide HLT⟩⟩⟩
     case measure=>simp [intOf]
   ·obtain ⟨x,hxx⟩:∃ x,x = xs[wh]?.getD 0:=⟨_,rfl⟩
    have hx1:x < 4294967296:=by rw [hxx]; exact Pl.wf_at (unhide HXW) _
    have hwn:wh < n:=by have:=unhide HKA; omega
    have hcx:wr.cell? ⟨ba,oa+wh,none⟩ = some (.int .u32 (x:Int)):=by
     rw [hxx]; exact (hS.fr.cell (p:=⟨ba,oa+wh,none⟩) (unhide HBA)).trans (unhide HXC wh hwn)
    obtain ⟨bit,hbit⟩:∃ bit,bit = m / 2 ^ i % 2:=⟨_,rfl⟩
    have hbb:bit≤1:=by omega
    have hbe:Go.bits BinOp.and IntKind.u32 ((x:Int) / 2 ^ pt) 1 = (bit:Int):=by
     rw [show (x:Int) / 2 ^ pt = ((x / 2 ^ pt:Nat):Int) by rw [Int.natCast_ediv,Int.natCast_pow]; rfl,and_one_u32 _ (Nat.lt_of_le_of_lt (Nat.div_le_self _ _) hx1),hbit,← unhide HXV,bit_row (unhide HXW) i,← hwh,← hpt,hxx]
    have hmi:=qbit h2
    rw [← hbit] at hmi
    have hRR:R≤m:=Nat.le_trans (by rw [h2]; omega) (Nat.div_le_self m (2 ^ (i+1)))
    have hRm:2 * R+bit≤m:=Nat.le_trans (by rw [hmi]; omega) (Nat.div_le_self m (2 ^ i))
    have hR2:2 * R+bit < 2 * d:=by omega
    have hV:X * 2 ^ (i+1) = 2 * X * 2 ^ i:=by rw [Nat.pow_succ,Nat.mul_comm 2 X,Nat.mul_assoc,Nat.mul_comm 2]
    rw [hV] at hS
    have HDB:=hide (hS.dbl hbb (unhide HTOP) (Nat.lt_of_le_of_lt hRR (unhide HML)))
    have hin1:(i:Int) < (N:Int):=by omega
    have hiN0:wh < L:=by have:=unhide HLL; omega
    have HIN0:=hide hiN0
    have HMI:=hide hmi
    have HR2:=hide hR2
    have HRM:=hide hRm
    clear HS hS h2 h3 hxx hbit hmi hR2 hRm hRR hV hwh hpt hbb hj hiN0
    go_wp2_with fail
    refine (unhide HDB).mono ?_
    rintro e w2 ⟨ra2,rn2,rc2,rfl,hS'⟩
    clear HDB hbe hcx hx1 hwn
    have hmi:=unhide HMI
    have hR2:=unhide HR2
    have hRm:=unhide HRM
    clear HMI HR2 HRM
    have hiN:=unhide HIN0
    have HNR:=hide (hS'.num (unhide HTOP) (Nat.lt_of_le_of_lt hRm (unhide HML))).1
    have HNB:=hide ((unhide HB).kept hS'.fr)
    have HC:=hide (rcmp_all ra2 a' rn2 n' rc2 cap' (2 * R+bit) d w2 (unhide HNR) (unhide HNB))
    have HS1:=hide hS'
    have HMI:=hide hmi
    have HR2:=hide hR2
    have HRM:=hide hRm
    have HIN:=hide hiN
    clear hS' hmi hR2 hRm hiN
    go_wp2_with fail
    refine (unhide HC).mono ?_
    rintro e w3 ⟨rfl,hb3⟩
    have HS3:=hide ((unhide HS1).kept hb3)
    have HNB3:=hide ((unhide HNB).kept hb3)
    clear hb3 HC HS1 HNB HNR
    by_cases hge:d≤(2 * R+bit)
    ·have hcm:(cmpI (2 * R+bit) d ≥ 0) = True:=by simp [cmpI]; split <;> (try split) <;> omega
     have HLS:=hide ((unhide HS3).less (c':=cap') (unhide HNB3) hge (unhide HTOP) (Nat.lt_of_le_of_lt (unhide HRM) (unhide HML)))
     go_wp2_with fail
     refine (unhide HLS).mono ?_
     rintro e w4 ⟨a1,n1,c1,rfl,hS4⟩
     have hwi:wh = i / 32:=unhide HWH
     have hpi:pt = i % 32:=unhide HPT
     obtain ⟨q,z,p1,p2,p3,p4⟩:=hS4.put (by rw [← hwi]; exact unhide HIN)
     rw [← hwi] at p1 p2 p4
     rw [← hpi] at p3
     have HP4:=hide p4
     have hin:=unhide HIN
     clear hS4 p4 hwi hpi HLS HS3 HNB3
     go_wp2
     go_roundw
     case rel=>
      rw [two_mod hpt2,p3]
      exact ⟨i,2 * X+1,(2 * R+bit) - d,a1,n1,c1,by omega,rfl,rfl,hide ⟨unhide HP4,Or.inr ⟨by omega,qge (unhide HMI) hge,by have:=unhide HR2; omega⟩⟩⟩
     case measure=>simp [intOf]
    ·have hcm:(cmpI (2 * R+bit) d ≥ 0) = False:=by simp [cmpI]; split <;> (try split) <;> omega
     have hlt:(2 * R+bit) < d:=by omega
     have HLT:=hide hlt
     clear hge hlt
     go_wp2
     go_roundw
     case rel=>exact ⟨i,2 * X,(2 * R+bit),_,_,_,by omega,rfl,rfl,hide ⟨unhide HS3,Or.inr ⟨by omega,unhide HMI,unhide HLT⟩⟩⟩
     case measure=>simp [intOf]
end Go.Proofs.YteblliofeaahmaaDoor
