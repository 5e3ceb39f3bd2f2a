/- Of what SoftFmasRow stands on: RefParse RefSums RTw. -/
import Derived.Test.YtfimakkpdjppfaaGreatDoorPam
import Derived.Test.YtfimakkpdjppfaaGreatDoorPan
import Derived.Test.YtfimakkpdjppfaaGreatDoorPaq
import Derived.Test.YtfimakkpdjppfaaGreatDoorPao
import Derived.Test.YtfimakkpdjppfaaGreatDoorPaf
import Derived.Test.YtfimakkpdjppfaaGreatDoorPag
import Derived.Test.YtfimakkpdjppfaaGreatDoorPal
import Derived.Test.YtfimakkpdjppfaaGreatDoorPaj
namespace Go.Proofs.YtfimakkpdjppfaaGreatDoor
open Go.RowKit
set_option maxHeartbeats 1000000
theorem rplus_max (a a':Option Addr) (n n' cap cap':Nat) (xs ys:List Nat) (w:World) (hn:xs.length = n) (hn':ys.length = n') (hl:Lim w a xs) (hl':Lim w a' ys) (hw:Pl.Wf xs) (hw':Pl.Wf ys) (hN:Pl.Norm xs) (hN':Pl.Norm ys) (hb:n≤40000) (hb':n'≤40000) :
  Calls Tryz.prog 65 #[.slice a n cap,.slice a' n' cap'] w fun e w'=>PlusTo w.heap.size (n+n') (Pl.val xs+Pl.val ys) e w'∧Below w.heap.size w w':=by
 by_cases h:n≤n'
 ·refine (rplus_list a a' n n' cap cap' n' xs ys w hn hn' hl hl' hw hw' hN hN' h (Nat.le_refl _) hb' (hide (Or.inr rfl))).mono ?_
  rintro e w' ⟨⟨b,k,c,zs,h1,h2,h3⟩,h4⟩
  exact ⟨⟨b,k,c,zs,h1,by omega,h3⟩,h4⟩
 ·refine (rplus_list a a' n n' cap cap' n xs ys w hn hn' hl hl' hw hw' hN hN' (Nat.le_refl _) (by omega) hb (hide (Or.inl rfl))).mono ?_
  rintro e w' ⟨⟨b,k,c,zs,h1,h2,h3⟩,h4⟩
  exact ⟨⟨b,k,c,zs,h1,by omega,h3⟩,h4⟩
theorem over_len {zs:List Nat} (hw:Pl.Wf zs) (hN:Pl.Norm zs) (h:16384 < zs.length):Over (Pl.val zs):=⟨by
 have:=Pl.val_le_len hw hN Pl.top
 rw [Pl.top_eq] at this ⊢
 omega⟩
theorem rfits_any (base:Nat) (a0:Option Addr) (n0 c0:Nat) (zs:List Nat) (w:World) (h:Own w base (.slice a0 n0 c0) zs) (hw:Pl.Wf zs) (hn:n0≤100000) :
  Calls Tryz.prog 39 #[.slice a0 n0 c0] w fun e w'=>Ans w' base e (Pl.val zs)∧Below w.heap.size w w':=by
 have hln:=h.len
 have HT:=hide (fun o:Obj=>rtrim_own base (.slice a0 n0 c0) zs (w.alloc o) (h.kept (gr_alloc w o)) hw)
 have hbx:=Box.made w (.slice none 0 0)
 have HBX:=hide hbx
 clear h hbx
 go_enter Tryz.func39,Tryz.ntmps39
 go_wp2_with fail
 refine (unhide HT _).mono ?_
 rintro e w1 ⟨rfl,a,n,c,ys,rfl,t1,t2,t3,t4,t5,t6⟩
 have hn2:n≤100000:=by omega
 by_cases h16:n≤16384
 ·have h16i:(n:Int)≤16384:=by omega
  have HG:=hide (gr_alloc w (.cells #[.slice none 0 0] 44))
  generalize w.alloc (.cells #[.slice none 0 0] 44) = W0 at *
  have HM:=hide (show Mine (W0.alloc (.cells #[.slice a n c] 44)) base a n c (Pl.val zs) from ⟨ys,t2,t3.kept (gr_alloc _ _),t4,t5,t6,h16⟩)
  have HX:=hide ((unhide HBX).alloc (.cells #[.slice a n c] 44))
  clear t1 t2 t3 t4 t5 t6 HT HBX hln
  go_wp2_with fail
  refine (rnat_any _ a n c _ rfl).mono ?_
  rintro e w3 ⟨rfl,rfl⟩
  have hcx:=(unhide HX).cell
  have hfx:=(unhide HX).frozen
  go_wp2
  exact bodyPost_ret (v:=.tuple #[.agg #[.slice a n c],.int .i64 0]) (by simp [results,Tryz.results39,go_sem,hcx]) rfl ⟨Or.inl ⟨_,_,_,rfl,(unhide HM).setBox (unhide HX) _⟩,(gr_trans (unhide HG) (gr_alloc _ _)).setCell (Nat.le_refl _) _⟩
 ·have h16i:(16384:Int) < (n:Int):=by omega
  have HO:=hide (t6▸over_len t4 t5 (by omega))
  have hcx:=(unhide HBX).cell
  have hfx:=(unhide HBX).frozen
  clear t1 t2 t3 t4 t5 t6 HT hln h16
  go_wp2
  exact bodyPost_ret (v:=.tuple #[.agg #[.slice none 0 0],.int .i64 4]) (by simp [results,Tryz.results39,go_sem]) rfl ⟨Or.inr ⟨rfl,unhide HO⟩,gr_alloc _ _⟩
theorem rtwo_num (a a':Option Addr) (n n' cap cap' m m':Nat) (w:World) (h:Num w a n m) (h':Num w a' n' m') :
  Calls Tryz.prog 38 #[.agg #[.slice a n cap],.agg #[.slice a' n' cap']] w fun e w'=>e = .returned (.int .i64 0)∧Below w.heap.size w w':=by
 obtain ⟨zs,kn,kl,kw,kN,kv,kb⟩:=h
 obtain ⟨ys,kn',kl',kw',kN',kv',kb'⟩:=h'
 have:=rtwo_any a a' cap cap' zs ys w (by omega) (by omega) kl kl'
 rw [kn,kn',chk2_ok (chk_ok (by omega) kN) (chk_ok (by omega) kN')] at this
 exact this
theorem rcmpApi_any (a a':Option Addr) (n n' cap cap' m m':Nat) (w:World) (h:Num w a n m) (h':Num w a' n' m') :
  Calls Tryz.prog 48 #[.agg #[.slice a n cap],.agg #[.slice a' n' cap']] w fun e w'=>e = .returned (.tuple #[.int .i64 (cmpI m m'),.int .i64 0])∧Below w.heap.size w w':=by
 have HK:=hide (fun (o1 o2:Obj)=>rtwo_num a a' n n' cap cap' m m' ((w.alloc o1).alloc o2) ((h.alloc _).alloc _) ((h'.alloc _).alloc _))
 have H:=hide (And.intro h h')
 clear h h'
 go_enter Tryz.func48,Tryz.ntmps48
 go_wp2_with fail
 refine (unhide HK _ _).mono ?_
 rintro e w1 ⟨rfl,hb1⟩
 obtain ⟨hc1,hf1⟩:=bcell hb1
 have HB:=hide (gr_trans (gr_trans (gr_alloc w (.cells #[.slice a n cap] 44)) (gr_alloc _ (.cells #[.slice a' n' cap'] 44))) hb1)
 clear hb1
 go_wp2_with fail
 refine (rcmp_all a a' n n' cap cap' m m' w1 ((unhide H).1.kept (unhide HB)) ((unhide H).2.kept (unhide HB))).mono ?_
 rintro e w2 ⟨rfl,hb2⟩
 go_wp2
 go_ret2
 exact ⟨rfl,gr_trans (unhide HB) hb2⟩
structure TwoR (w W:World) (a a':Option Addr) (n n' cap cap':Nat):Prop where
 ba:Box W w.heap.size (.slice a n cap)
 bb:Box W (w.heap.size+1) (.slice a' n' cap')
 br:Box W (w.heap.size+2) (.slice none 0 0)
 bel:Below w.heap.size w W
theorem TwoR.kept {w W W':World} {a a':Option Addr} {n n' cap cap':Nat} (h:TwoR w W a a' n n' cap cap') (hb:Below W.heap.size W W'):TwoR w W' a a' n n' cap cap':=⟨h.ba.kept hb,h.bb.kept hb,h.br.kept hb,gr_trans h.bel hb⟩
theorem TwoR.made (w:World) (a a':Option Addr) (n n' cap cap':Nat):TwoR w (((w.alloc (.cells #[.slice a n cap] 44)).alloc (.cells #[.slice a' n' cap'] 44)).alloc (.cells #[.slice none 0 0] 44)) a a' n n' cap cap':=by
 have h1:=Box.made (w.alloc (.cells #[.slice a n cap] 44)) (.slice a' n' cap')
 have h2:=Box.made ((w.alloc (.cells #[.slice a n cap] 44)).alloc (.cells #[.slice a' n' cap'] 44)) (.slice none 0 0)
 simp only [World.size_alloc] at h1 h2
 exact ⟨((Box.made w _).alloc _).alloc _,h1.alloc _,h2,gr_trans (gr_trans (gr_alloc _ _) (gr_alloc _ _)) (gr_alloc _ _)⟩
theorem radd_any (a a':Option Addr) (n n' cap cap' m m':Nat) (w:World) (h:Num w a n m) (h':Num w a' n' m') :
  Calls Tryz.prog 47 #[.agg #[.slice a n cap],.agg #[.slice a' n' cap']] w fun e w'=>Ans w' w.heap.size e (m+m')∧Below w.heap.size w w':=by
 have HK:=hide (fun (o1 o2 o3:Obj)=>rtwo_num a a' n n' cap cap' m m' (((w.alloc o1).alloc o2).alloc o3) (((h.alloc _).alloc _).alloc _) (((h'.alloc _).alloc _).alloc _))
 have H:=hide (And.intro h h')
 clear h h'
 go_enter Tryz.func47,Tryz.ntmps47
 go_wp2_with fail
 refine (unhide HK _ _ _).mono ?_
 rintro e w1 ⟨rfl,hb1⟩
 have HT:=hide ((TwoR.made w a a' n n' cap cap').kept hb1)
 have hs1:=(unhide HT).bel.size
 have hca:=(unhide HT).ba.cell
 have hcb:=(unhide HT).bb.cell
 have HP:Hid (Calls Tryz.prog 65 #[.slice a n cap,.slice a' n' cap'] w1 fun e w'=>PlusTo w1.heap.size (n+n') (m+m') e w'∧Below w1.heap.size w1 w'):=hide (by
  obtain ⟨xs,hn,hl,hw,hN,hv,hb⟩:=(unhide H).1.kept (unhide HT).bel
  obtain ⟨ys,hn',hl',hw',hN',hv',hb'⟩:=(unhide H).2.kept (unhide HT).bel
  rw [← hv,← hv']
  exact rplus_max a a' n n' cap cap' xs ys w1 hn hn' hl hl' hw hw' hN hN' (by omega) (by omega))
 have hbn:n≤16384∧n'≤16384:=by
  obtain ⟨xs,_,_,_,_,_,hb⟩:=(unhide H).1
  obtain ⟨ys,_,_,_,_,_,hb'⟩:=(unhide H).2
  exact ⟨hb,hb'⟩
 obtain ⟨hbn1,hbn2⟩:=hbn
 clear hb1 HK
 go_wp2_with fail
 refine (unhide HP).mono ?_
 rintro e w2 ⟨⟨pa,pn,pc,ps,rfl,p1,p2,p3,p4,p5,p6⟩,hb2⟩
 have HF:=hide (rfits_any w1.heap.size pa pn pc ps w2 p3 p4 (by omega))
 rw [p6] at HF
 have HT2:=hide ((unhide HT).kept hb2)
 clear p1 p2 p3 p4 p5 p6 hb2 HP hca hcb HT
 go_wp2_with fail
 refine (unhide HF).mono ?_
 rintro e w3 ⟨hA,hb3⟩
 have HT3:=hide ((unhide HT2).kept hb3)
 have hcx:=(unhide HT3).br.cell
 have hfx:=(unhide HT3).br.frozen
 rcases hA with ⟨fa,fn,fc,rfl,hM⟩|⟨rfl,hO⟩
 ·have HM:=hide (hM.mono (base':=w.heap.size) hs1)
  clear hM hb3 HF HT2
  go_wp2
  exact bodyPost_ret (v:=.tuple #[.agg #[.slice fa fn fc],.int .i64 0]) (by simp [results,Tryz.results47,go_sem,hcx]) rfl ⟨Or.inl ⟨_,_,_,rfl,(unhide HM).setBox (unhide HT3).br _⟩,(unhide HT3).bel.setCell (Nat.le_add_right _ 2) _⟩
 ·have HO:=hide hO
  clear hO hb3 HF HT2
  go_wp2
  exact bodyPost_ret (v:=.tuple #[.agg #[.slice none 0 0],.int .i64 4]) (by simp [results,Tryz.results47,go_sem,hcx]) rfl ⟨Or.inr ⟨rfl,unhide HO⟩,(unhide HT3).bel.setCell (Nat.le_add_right _ 2) _⟩
theorem rtimes_lnil (a a':Option Addr) (cap cap' ny:Nat) (w:World) (hy:ny≤40000) :
  Calls Tryz.prog 40 #[.slice a 0 cap,.slice a' ny cap'] w
   fun e w'=>TimesTo w.heap.size ny 0 e w'∧Below w.heap.size w w':=by
 have hmk:=make_limbs ((0:Int)+(ny:Int)) ny (by omega) (by omega)
 rw [Int.zero_add] at hmk
 have HR:=hide (Row.made w (List.replicate ny 0))
 go_enter Tryz.func40,Tryz.ntmps40
 go_wp2
 clear hmk
 refine wp_loop_rounds 1 ?_
 rw [rounds_succ]
 go_wp2_with fail
 refine (rtrim_at w.heap.size 0 ny ny (List.replicate ny 0) _ (by simp) (Nat.le_refl _) (by omega) (fun j hj=>by rw [Nat.zero_add]; exact (unhide HR).cell j hj)).mono ?_
 rintro e w1 ⟨rfl,n,hn,h0,h1,rfl⟩
 have hn2:n≤ny:=by simpa using hn
 have HT:=hide (rtrim_row (cap:=ny) (unhide HR) (Nat.le_refl _) (by simp; omega) (Pl.wf_replicate ny) hn (by simp) hn2 h0 h1)
 clear h0 h1 hn
 go_wp2
 go_ret
 obtain ⟨t1,t2,t3,t4,t5⟩:=unhide HT
 exact ⟨⟨n,_,rfl,hn2,t1,t2,t3,t4,t5.trans (Pl.val_replicate ny)⟩,gr_alloc _ _⟩
theorem rep_set (n i:Nat):(List.replicate n 0).set i 0 = List.replicate n 0:=by
 apply List.ext_getElem
 ·simp
 ·intro j h1 h2
  rw [List.getElem_set]
  split
  ·simp
  ·rfl
theorem rtimes_rnil (a a':Option Addr) (cap cap' nx:Nat) (w:World) (hx:nx≤40000) :
  Calls Tryz.prog 40 #[.slice a nx cap,.slice a' 0 cap'] w
   fun e w'=>TimesTo w.heap.size nx 0 e w'∧Below w.heap.size w w':=by
 have hmk:=make_limbs ((nx:Int)+(0:Int)) nx (by omega) (by omega)
 rw [Int.add_zero] at hmk
 have HR:=hide (Row.made w (List.replicate nx 0))
 go_enter Tryz.func40,Tryz.ntmps40
 go_wp2
 clear hmk
 go_loopw [6] (fun s6 wr=>∃ i:Nat,i≤nx∧s6 = .int .i64 (i:Int)∧Row wr w.heap.size (List.replicate nx 0)∧Below w.heap.size w wr) (fun s6 _=>nx - (intOf s6).toNat)
 case atStart=>exact ⟨0,Nat.zero_le _,rfl,unhide HR,gr_alloc _ _⟩
 case round=>
  obtain ⟨i,hi,rfl,hr,hbel⟩:=hrel
  by_cases hin:i < nx
  ·have hc:=hr.cell i (by simpa using hin)
   have hf:=hr.frozen i
   have hs:=hr.set i 0 (by simpa using hin)
   rw [rep_set] at hs
   have HS:=hide (And.intro hs (hbel.setCell (p:=⟨w.heap.size,i,none⟩) (Nat.le_refl _) (.int .u32 ((0:Nat):Int))))
   clear hr hbel hs hi
   go_wp2
   refine wp_loop_rounds 1 ?_
   rw [rounds_succ]
   go_wp2
   go_roundw
   case rel=>exact ⟨i+1,by omega,by go_num,(unhide HS).1,(unhide HS).2⟩
   case measure=>simp [intOf]; omega
  ·have hie:i = nx:=by omega
   subst hie
   clear hin hi
   go_wp2_with fail
   refine (rtrim_at w.heap.size 0 i i (List.replicate i 0) _ (by simp) (Nat.le_refl _) (by omega) (fun j hj=>by rw [Nat.zero_add]; exact hr.cell j hj)).mono ?_
   rintro e w1 ⟨rfl,n,hn,h0,h1,rfl⟩
   have hn2:n≤i:=by simpa using hn
   have HT:=hide (rtrim_row (cap:=i) hr (Nat.le_refl _) (by simp; omega) (Pl.wf_replicate i) hn (by simp) hn2 h0 h1)
   clear h0 h1 hn
   go_wp2
   go_ret
   obtain ⟨t1,t2,t3,t4,t5⟩:=unhide HT
   exact ⟨⟨n,_,rfl,hn2,t1,t2,t3,t4,t5.trans (Pl.val_replicate i)⟩,hbel⟩
theorem rtimes_all (a a':Option Addr) (n n' cap cap':Nat) (xs ys:List Nat) (w:World) (hn:xs.length = n) (hn':ys.length = n') (hb:n≤40000) (hb':n'≤40000) (hw:Pl.Wf xs) (hw':Pl.Wf ys) (hl:Lim w a xs) (hl':Lim w a' ys) :
  Calls Tryz.prog 40 #[.slice a n cap,.slice a' n' cap'] w fun e w'=>TimesTo w.heap.size (n+n') (Pl.val xs * Pl.val ys) e w'∧Below w.heap.size w w':=by
 rcases hl.parts with h|⟨hp,b,off,rfl,hlt,hc⟩
 ·subst h
  obtain rfl:n = 0:=by rw [← hn]; rfl
  have:=rtimes_lnil a a' cap cap' n' w hb'
  simpa [Pl.val] using this
 ·rcases hl'.parts with h|⟨hp',b',off',rfl,hlt',hc'⟩
  ·subst h
   obtain rfl:n' = 0:=by rw [← hn']; rfl
   have:=rtimes_rnil (some ⟨b,off,none⟩) a' cap cap' n w hb
   simpa [Pl.val] using this
  ·exact rtimes_some b off cap b' off' cap' n n' xs ys w (hide hn) (hide hn') hb hb' hw hw' hlt hlt' (hide (fun j hj=>hc j (by omega))) (hide (fun j hj=>hc' j (by omega)))
theorem rmul_any (a a':Option Addr) (n n' cap cap' m m':Nat) (w:World) (h:Num w a n m) (h':Num w a' n' m') :
  Calls Tryz.prog 27 #[.agg #[.slice a n cap],.agg #[.slice a' n' cap']] w fun e w'=>Ans w' w.heap.size e (m * m')∧Below w.heap.size w w':=by
 have HK:=hide (fun (o1 o2 o3:Obj)=>rtwo_num a a' n n' cap cap' m m' (((w.alloc o1).alloc o2).alloc o3) (((h.alloc _).alloc _).alloc _) (((h'.alloc _).alloc _).alloc _))
 have H:=hide (And.intro h h')
 clear h h'
 go_enter Tryz.func27,Tryz.ntmps27
 go_wp2_with fail
 refine (unhide HK _ _ _).mono ?_
 rintro e w1 ⟨rfl,hb1⟩
 have HT:=hide ((TwoR.made w a a' n n' cap cap').kept hb1)
 have hs1:=(unhide HT).bel.size
 have hca:=(unhide HT).ba.cell
 have hcb:=(unhide HT).bb.cell
 have HP:Hid (Calls Tryz.prog 40 #[.slice a n cap,.slice a' n' cap'] w1 fun e w'=>TimesTo w1.heap.size (n+n') (m * m') e w'∧Below w1.heap.size w1 w'):=hide (by
  obtain ⟨xs,hn,hl,hw,hN,hv,hb⟩:=(unhide H).1.kept (unhide HT).bel
  obtain ⟨ys,hn',hl',hw',hN',hv',hb'⟩:=(unhide H).2.kept (unhide HT).bel
  rw [← hv,← hv']
  exact rtimes_all a a' n n' cap cap' xs ys w1 hn hn' (by omega) (by omega) hw hw' hl hl')
 have HOV:Hid (16385 < n+n'→Over (m * m')):=hide (fun hgt=>by
  obtain ⟨xs,hn,hl,hw,hN,hv,hb⟩:=(unhide H).1
  obtain ⟨ys,hn',hl',hw',hN',hv',hb'⟩:=(unhide H).2
  rw [← hv,← hv']
  exact pow_le_mul hN hN' (by omega) (by omega) (by omega))
 have hbn:n≤16384∧n'≤16384:=by
  obtain ⟨xs,_,_,_,_,_,hb⟩:=(unhide H).1
  obtain ⟨ys,_,_,_,_,_,hb'⟩:=(unhide H).2
  exact ⟨hb,hb'⟩
 obtain ⟨hbn1,hbn2⟩:=hbn
 clear hb1 HK
 by_cases hbig:16385 < n+n'
 ·have hbi:(16385:Int) < (n:Int)+(n':Int):=by omega
  have HO:=hide (unhide HOV hbig)
  have hcx:=(unhide HT).br.cell
  have hfx:=(unhide HT).br.frozen
  clear hbig HP HOV
  go_wp2
  exact bodyPost_ret (v:=.tuple #[.agg #[.slice none 0 0],.int .i64 4]) (by simp [results,Tryz.results27,go_sem,hcx]) rfl ⟨Or.inr ⟨rfl,unhide HO⟩,(unhide HT).bel.setCell (Nat.le_add_right _ 2) _⟩
 ·have hbi:(n:Int)+(n':Int)≤16385:=by omega
  clear HOV hbig
  go_wp2_with fail
  refine (unhide HP).mono ?_
  rintro e w2 ⟨⟨pn,ps,rfl,p1,p2,p3,p4,p5,p6⟩,hb2⟩
  have HF:=hide (rfits_any w1.heap.size _ pn (n+n') ps w2 p3 p4 (by omega))
  rw [p6] at HF
  have HT2:=hide ((unhide HT).kept hb2)
  clear p1 p2 p3 p4 p5 p6 hb2 HP hca hcb HT
  go_wp2_with fail
  refine (unhide HF).mono ?_
  rintro e w3 ⟨hA,hb3⟩
  have HT3:=hide ((unhide HT2).kept hb3)
  have hcx:=(unhide HT3).br.cell
  have hfx:=(unhide HT3).br.frozen
  rcases hA with ⟨fa,fn,fc,rfl,hM⟩|⟨rfl,hO⟩
  ·have HM:=hide (hM.mono (base':=w.heap.size) hs1)
   clear hM hb3 HF HT2
   go_wp2
   exact bodyPost_ret (v:=.tuple #[.agg #[.slice fa fn fc],.int .i64 0]) (by simp [results,Tryz.results27,go_sem,hcx]) rfl ⟨Or.inl ⟨_,_,_,rfl,(unhide HM).setBox (unhide HT3).br _⟩,(unhide HT3).bel.setCell (Nat.le_add_right _ 2) _⟩
  ·have HO:=hide hO
   clear hO hb3 HF HT2
   go_wp2
   exact bodyPost_ret (v:=.tuple #[.agg #[.slice none 0 0],.int .i64 4]) (by simp [results,Tryz.results27,go_sem,hcx]) rfl ⟨Or.inr ⟨rfl,unhide HO⟩,(unhide HT3).bel.setCell (Nat.le_add_right _ 2) _⟩
theorem rsub_any (a a':Option Addr) (n n' cap cap' m m':Nat) (w:World) (h:Num w a n m) (h':Num w a' n' m') :
  Calls Tryz.prog 49 #[.agg #[.slice a n cap],.agg #[.slice a' n' cap']] w fun e w'=>SubAns w' w.heap.size e m m'∧Below w.heap.size w w':=by
 have HK:=hide (fun (o1 o2 o3:Obj)=>rtwo_num a a' n n' cap cap' m m' (((w.alloc o1).alloc o2).alloc o3) (((h.alloc _).alloc _).alloc _) (((h'.alloc _).alloc _).alloc _))
 have H:=hide (And.intro h h')
 clear h h'
 go_enter Tryz.func49,Tryz.ntmps49
 go_wp2_with fail
 refine (unhide HK _ _ _).mono ?_
 rintro e w1 ⟨rfl,hb1⟩
 have HT:=hide ((TwoR.made w a a' n n' cap cap').kept hb1)
 have hs1:=(unhide HT).bel.size
 have hca:=(unhide HT).ba.cell
 have hcb:=(unhide HT).bb.cell
 clear hb1 HK
 go_wp2_with fail
 refine (rcmp_all a a' n n' cap cap' m m' w1 ((unhide H).1.kept (unhide HT).bel) ((unhide H).2.kept (unhide HT).bel)).mono ?_
 rintro e w2 ⟨rfl,hb2⟩
 have HT2:=hide ((unhide HT).kept hb2)
 have hcx:=(unhide HT2).br.cell
 have hfx:=(unhide HT2).br.frozen
 clear hb2 HT hca hcb
 by_cases hlt:m < m'
 ·rw [cmpI_lt hlt]
  have HLT:=hide hlt
  clear hlt
  go_wp2
  exact bodyPost_ret (v:=.tuple #[.agg #[.slice none 0 0],.bool false,.int .i64 0]) (by simp [results,Tryz.results49,go_sem,hcx]) rfl ⟨Or.inl ⟨unhide HLT,rfl⟩,(unhide HT2).bel.setCell (Nat.le_add_right _ 2) _⟩
 ·have hcg:=cmp_ge (show m'≤m by omega)
  have HP:Hid (Calls Tryz.prog 67 #[.slice a n cap,.slice a' n' cap'] w2 fun e w'=>LessTo w2.heap.size n (m - m') e w'∧Below w2.heap.size w2 w'):=hide (by
   obtain ⟨xs,hn,hl,hw,hN,hv,hb⟩:=(unhide H).1.kept (unhide HT2).bel
   obtain ⟨ys,hn',hl',hw',hN',hv',hb'⟩:=(unhide H).2.kept (unhide HT2).bel
   rw [← hv,← hv']
   refine rless_list a a' n n' cap cap' xs ys w2 hn hn' hl hl' hw hw' ?_ (by omega) (hide (by omega))
   by_cases hnn:n'≤n
   ·exact hnn
   ·have:=cmp_len hw hN' (show xs.length < ys.length by omega)
    omega)
  have hbn:n≤16384:=by
   obtain ⟨xs,_,_,_,_,_,hb⟩:=(unhide H).1
   exact hb
  have HLE:=hide (show m'≤m by omega)
  have hca:=(unhide HT2).ba.cell
  have hcb:=(unhide HT2).bb.cell
  have hs2:=(unhide HT2).bel.size
  clear hlt hcx hfx
  go_wp2_with fail
  refine (unhide HP).mono ?_
  rintro e w3 ⟨⟨pa,pn,pc,ps,rfl,p1,p2,p3,p4,p5,p6⟩,hb3⟩
  have HM:=hide (show Mine (w3.alloc (.cells #[.slice pa pn pc] 44)) w.heap.size pa pn pc (m - m') from ⟨ps,p2,(p3.mono hs2).kept (gr_alloc _ _),p4,p5,p6,by omega⟩)
  have HT3:=hide (((unhide HT2).kept hb3).kept (gr_alloc w3 (.cells #[.slice pa pn pc] 44)))
  clear p1 p2 p3 p4 p5 p6 hb3 HP hca hcb HT2
  go_wp2_with fail
  refine (rnat_any _ pa pn pc _ rfl).mono ?_
  rintro e w4 ⟨rfl,rfl⟩
  have hcx:=(unhide HT3).br.cell
  have hfx:=(unhide HT3).br.frozen
  go_wp2
  exact bodyPost_ret (v:=.tuple #[.agg #[.slice pa pn pc],.bool true,.int .i64 0]) (by simp [results,Tryz.results49,go_sem,hcx]) rfl ⟨Or.inr ⟨unhide HLE,_,_,_,rfl,(unhide HM).setBox (unhide HT3).br _⟩,(unhide HT3).bel.setCell (Nat.le_add_right _ 2) _⟩
theorem append_lim6 (w:World) (a:Option Addr) (n cap:Nat) (xs:List Nat) (hn:xs.length = n) (hl:Lim w a xs) (hb:n≤35184372088832) :
  ∃ v W,(Builtin.append_ #[42,42] 42 #[.slice none 0 0,.slice a n cap]).run Tryz.prog w = .ok v W∧W.ownsRow w.heap.size 119 1 v n (xs.map (fun z:Nat=>Value.int .u32 (z:Int)))∧Below w.heap.size w W:=by
 obtain ⟨i0,hi,hz0,hz1,hz2⟩:=info_parts Tryz.info_limb
 rcases hl.parts with hx|⟨hp,b,off,rfl,hlt,hc⟩
 ·subst hx
  obtain rfl:n = 0:=by rw [← hn]; rfl
  refine ⟨.slice none 0 0,w,?_,World.ownsRow_nil _ _ _ _,gr_refl _⟩
  cases a with
  | none=>exact run_append_nothing (P:=Tryz.prog) w 42 42 42 119 i0 Tryz.under_limbs hi none 0 0 (Nat.le_refl _) _ (Src.ofNil _ Tryz.under_limbs cap)
  | some ad=>exact run_append_nothing (P:=Tryz.prog) w 42 42 42 119 i0 Tryz.under_limbs hi none 0 0 (Nat.le_refl _) _ (Src.ofSlice _ Tryz.under_limbs ad 0 cap [] (by simp) (fun j u h=>by simp at h) (fun u h=>by simp at h))
 ·obtain ⟨v,W,h1,h2,h3,_⟩:=run_append_own_at (P:=Tryz.prog) (w:=w) w.heap.size 42 42 119 i0 (.int .u32 0) 1 4 Tryz.under_limbs hi hz0 hz1 hz2 rfl (by decide) (.slice none 0 0) 0 [] (World.ownsRow_nil _ _ _ _) ⟨b,off,none⟩ n cap (xs.map (fun z:Nat=>Value.int .u32 (z:Int))) (by simp; omega) (fun j u hj=>by
    have hjn:j < xs.length:=by have:=(List.getElem?_eq_some_iff.1 hj).1; simpa using this
    have hv:u = .int .u32 ((xs[j]?.getD 0:Nat):Int):=by
     rw [List.getElem?_map,List.getElem?_eq_getElem hjn] at hj
     simp at hj
     rw [← hj]
     simp [hjn]
    rw [hv,Addr.add_lit]
    exact hc j hjn) (fun u hu=>by obtain ⟨z,_,rfl⟩:=List.mem_map.1 hu; rfl) (by unfold maxLen; omega) (by omega) (Nat.le_refl _)
  refine ⟨v,W,h1,by simpa using h2,h3.os,h3.tape,h3.output,h3.size,fun k hk=>h3.block k hk (by simp [Value.ownBlock])⟩
theorem rtwin_any6 (a:Option Addr) (n cap:Nat) (xs:List Nat) (w:World) (hn:xs.length = n) (hl:Lim w a xs) (hb:n≤35184372087808) :
  Calls Tryz.prog 62 #[.agg #[.slice a n cap]] w fun e w'=>(∃ b c,e = .returned (.agg #[.slice b n c])∧Own w' w.heap.size (.slice b n c) xs)∧Below w.heap.size w w':=by
 obtain ⟨W0,hW0⟩:∃ W0,(w.alloc (.cells #[.slice a n cap] 44)).alloc (.cells #[.slice none 0 0] 44) = W0:=⟨_,rfl⟩
 have hb0:Below w.heap.size w W0:=by rw [← hW0]; exact gr_trans (gr_alloc _ _) (gr_alloc _ _)
 have hx0:Box W0 w.heap.size (.slice a n cap):=by rw [← hW0]; exact (Box.made w _).alloc _
 have hy0:Box W0 (w.heap.size+1) (.slice none 0 0):=by
  rw [← hW0]
  have:=Box.made (w.alloc (.cells #[.slice a n cap] 44)) (.slice none 0 0)
  simpa using this
 obtain ⟨v1,W1,hr1,ho1,hb1⟩:=append_lim6 W0 a n cap xs hn (hl.below hb0) (by omega)
 have hO:∃ b c,v1 = .slice b n c∧Own W1 w.heap.size v1 xs:=by
  by_cases h0:n = 0
  ·subst h0
   have hx:xs = []:=List.length_eq_zero_iff.1 hn
   obtain ⟨_,⟨h1,h2⟩|⟨g,c,cur,hv,hg,hh,h1,h2,h3,h4⟩⟩:=ho1
   ·exact ⟨none,0,h1,Or.inl ⟨h1,hx⟩⟩
   ·refine ⟨_,_,hv,Or.inr ⟨g,c,cur,by rw [hx]; exact hv,by have:=hb0.size; omega,hh,by rw [hx]; simp,by omega,by unfold maxLen at h2; exact h2,fun j hj=>by rw [hx] at hj; simp at hj⟩⟩
  ·obtain ⟨hO,_⟩:=own_of_row ho1 hn (by omega) hb0.size
   obtain ⟨g,c,hv⟩:=own_form ho1 (by omega)
   exact ⟨_,_,hv,hO⟩
 obtain ⟨b,c,rfl,hO⟩:=hO
 have HO:=hide (hO.kept (gr_alloc W1 (.cells #[.slice b n c] 44)))
 have HY:=hide ((hy0.kept hb1).alloc (.cells #[.slice b n c] 44))
 have HB:=hide (gr_trans (gr_trans hb0 hb1) (gr_alloc W1 (.cells #[.slice b n c] 44)))
 have hcx:=hx0.cell
 clear hO hb0 hx0 hy0 ho1 hb1 hl hn
 subst hW0
 go_enter Tryz.func62,Tryz.ntmps62
 go_wp2_with (at_builtin; refine wpList_append_run rfl (.tmp 4) (.tmp 6) 42 rfl hr1 ?_)
 refine (rnat_any _ b n c _ rfl).mono ?_
 rintro e w3 ⟨rfl,rfl⟩
 have hcy:=(unhide HY).cell
 have hfy:=(unhide HY).frozen
 go_wp2
 exact bodyPost_ret (v:=.agg #[.slice b n c]) (by simp [results,Tryz.results62,go_sem,hcy]) rfl ⟨⟨b,c,rfl,(unhide HO).setBox (unhide HY) _⟩,(unhide HB).setCell (Nat.le_add_right _ 1) _⟩
end Go.Proofs.YtfimakkpdjppfaaGreatDoor
