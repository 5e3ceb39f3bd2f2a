/- Of what RoundIntegerRow stands on: Sub CmpN. -/
import Derived.Test.YtfjegmlpkiaifaaGreatDoorPap
import Derived.Test.YtfjegmlpkiaifaaGreatDoorPaf
import Derived.Test.YtfjegmlpkiaifaaGreatDoorPag
namespace Go.Proofs.YtfjegmlpkiaifaaGreatDoor
open Go.RowKit
set_option maxHeartbeats 1000000
def SubAns (w:World) (base:Nat) (e:Ending) (m m':Nat):Prop:=
 (m < m'∧e = .returned (.tuple #[.agg #[.slice none 0 0],.bool false,.int .i64 0])) ∨
 (m'≤m∧∃ a n cap,e = .returned (.tuple #[.agg #[.slice a n cap],.bool true,.int .i64 0])∧Mine w base a n cap (m - m'))
theorem cmp_ge {m m':Nat} (h:m'≤m):decide (cmpI m m' < 0) = false:=by
 by_cases e:m = m'
 ·rw [e,cmpI_eq]; decide
 ·rw [cmpI_gt (by omega)]; decide
theorem Box.but {w w':World} {p C:Nat} {v:Value} (h:Box w p v) (k:Only C w w') (hne:p≠C):Box w' p v:=by
 unfold Box; rw [k.block p hne]; exact h
theorem Mine.cut0 {w:World} {base c m:Nat} {a:Option Addr} (h:Mine w base a 0 c m):Own w base (.slice a 0 0) []:=by
 obtain ⟨xs,hn,ho,_⟩:=h
 obtain rfl:xs = []:=List.length_eq_zero_iff.1 hn
 rcases ho with ⟨e,_⟩|⟨g,cap,cur,e,hg,hh,h1,h2,h3,hc⟩
 ·injection e with e1 e2 e3
  exact Or.inl ⟨by rw [e1],rfl⟩
 ·injection e with e1 e2 e3
  exact Or.inr ⟨g,0,cur,by rw [e1]; rfl,hg,hh,Nat.zero_le _,Nat.zero_le _,by omega,fun j hj=>by simp at hj⟩
theorem checkBoth_num (a a':Option Addr) (n n' cap cap' m m':Nat) (w:World) (h:Num w a n m) (h':Num w a' n' m') :
  Calls Tryz.prog 66 #[.agg #[.slice a n cap],.agg #[.slice a' n' cap']] w fun e w'=>e = .returned (.int .i64 0)∧Below w.heap.size w w':=by
 obtain ⟨zs,kn,kl,kw,kN,kv,kb⟩:=h
 obtain ⟨ys,kn',kl',kw',kN',kv',kb'⟩:=h'
 have:=checkBoth_any a a' cap cap' zs ys w (by omega) (by omega) kl kl'
 rw [kn,kn',chk2_ok (chk_ok (by omega) kN) (chk_ok (by omega) kN')] at this
 exact this
theorem sub_lt (a a':Option Addr) (n n' cap cap' m m':Nat) (w:World) (h:Num w a n m) (h':Num w a' n' m') (hlt:m < m') :
  Calls Tryz.prog 36 #[.agg #[.slice a n cap],.agg #[.slice a' n' cap']] w fun e w'=>SubAns w' w.heap.size e m m'∧Below w.heap.size w w':=by
 have hN:=h
 have hN':=h'
 obtain ⟨xs,hn,hl,hw,hNn,hv,hb⟩:=h
 obtain ⟨ys,hn',hl',hw',hNn',hv',hb'⟩:=h'
 have hck:=fun (o1 o2 o3:Obj)=>checkBoth_any a a' cap cap' xs ys (((w.alloc o1).alloc o2).alloc o3) (by omega) (by omega) (((hl.alloc _).alloc _).alloc _) (((hl'.alloc _).alloc _).alloc _)
 rw [hn,hn',chk2_ok (chk_ok (by omega) hNn) (chk_ok (by omega) hNn')] at hck
 have HK:=hide hck
 have hcm:=cmpI_lt hlt
 have HLT:=hide hlt
 clear hck hn hn' hv hv' hl hl' hlt
 go_enter Tryz.func36,Tryz.ntmps36
 go_wp2_with fail
 refine (unhide HK _ _ _).mono ?_
 rintro e w1 ⟨rfl,hb1⟩
 obtain ⟨hc1,hf1⟩:=bcell hb1
 have hby:=(Box.made ((w.alloc (.cells #[.slice a n cap] 26)).alloc (.cells #[.slice a' n' cap'] 26)) (.slice none 0 0)).kept hb1
 simp only [World.size_alloc] at hby
 have hB:=hide (gr_trans (gr_trans (gr_trans (gr_alloc w (.cells #[.slice a n cap] 26)) (gr_alloc _ (.cells #[.slice a' n' cap'] 26))) (gr_alloc _ (.cells #[.slice none 0 0] 26))) hb1)
 have h1:=hN.kept (unhide hB)
 have h1':=hN'.kept (unhide hB)
 clear hb1 HK hN hN'
 go_wp2_with fail
 refine (compare_any a a' n n' cap cap' m m' w1 h1 h1').mono ?_
 rintro e w2 ⟨rfl,hb2⟩
 rw [hcm]
 have hX2:=hby.kept hb2
 have hcx:=hX2.cell
 have hfx:=hX2.frozen
 have HB2:=hide (gr_trans (unhide hB) hb2)
 clear hb2 h1 h1' hc1 hf1
 go_wp2
 exact bodyPost_ret (v:=.tuple #[.agg #[.slice none 0 0],.bool false,.int .i64 0]) (by simp [results,Tryz.results36,go_sem,hcx]) rfl ⟨Or.inl ⟨unhide HLT,rfl⟩,(unhide HB2).setCell (Nat.le_add_right _ 2) _⟩
theorem sub_ge (b off:Nat) (a':Option Addr) (n n' cap cap' m m':Nat) (xs:List Nat) (w:World) (h:Num w (some ⟨b,off,none⟩) n m) (h':Num w a' n' m') (hle:m'≤m)
  (hn:Hid (xs.length = n)) (hp:0 < n) (hv:Hid (Pl.val xs = m)) (hw:Pl.Wf xs) (hlt:b < w.heap.size) (hc:Hid (∀ j,j < n→w.cell? ⟨b,off+j,none⟩ = some (.int .u32 ((xs[j]?.getD 0:Nat):Int)))) :
  Calls Tryz.prog 36 #[.agg #[.slice (some ⟨b,off,none⟩) n cap],.agg #[.slice a' n' cap']] w fun e w'=>SubAns w' w.heap.size e m m'∧Below w.heap.size w w':=by
 have hN:=h
 have hN':=h'
 have hnb:=h.len
 have hnn:n'≤n:=by
  obtain ⟨zs,kn,_,kw,kN,kv,_⟩:=h
  obtain ⟨ys,kn',_,kw',kN',kv',_⟩:=h'
  have:=(Pl.val_le_len kw' kN' n).2 (by rw [kv']; have:=Pl.val_lt kw; rw [kn,kv] at this; omega)
  omega
 have hck:=fun (o1 o2 o3:Obj)=>checkBoth_num (some ⟨b,off,none⟩) a' n n' cap cap' m m' (((w.alloc o1).alloc o2).alloc o3) (((h.alloc _).alloc _).alloc _) (((h'.alloc _).alloc _).alloc _)
 have HK:=hide hck
 have hcm:=cmp_ge hle
 have HLE:=hide hle
 have HNN:=hide (And.intro hnn hnb)
 clear hck hle hnn h h'
 go_enter Tryz.func36,Tryz.ntmps36
 go_wp2_with fail
 refine (unhide HK _ _ _).mono ?_
 rintro e w1 ⟨rfl,hb1⟩
 obtain ⟨hc1,hf1⟩:=bcell hb1
 have hbb:=(Box.made (w.alloc (.cells #[.slice (some ⟨b,off,none⟩) n cap] 26)) (.slice a' n' cap')).alloc (.cells #[.slice none 0 0] 26)
 have hbb:=hbb.kept hb1
 have hby:=(Box.made ((w.alloc (.cells #[.slice (some ⟨b,off,none⟩) n cap] 26)).alloc (.cells #[.slice a' n' cap'] 26)) (.slice none 0 0)).kept hb1
 have hba:=(((Box.made w (.slice (some ⟨b,off,none⟩) n cap)).alloc (.cells #[.slice a' n' cap'] 26)).alloc (.cells #[.slice none 0 0] 26)).kept hb1
 simp only [World.size_alloc] at hby hbb hba
 have hB:=hide (gr_trans (gr_trans (gr_trans (gr_alloc w (.cells #[.slice (some ⟨b,off,none⟩) n cap] 26)) (gr_alloc _ (.cells #[.slice a' n' cap'] 26))) (gr_alloc _ (.cells #[.slice none 0 0] 26))) hb1)
 have h1:=hN.kept (unhide hB)
 have h1':=hN'.kept (unhide hB)
 clear hb1 HK hN hN'
 go_wp2_with fail
 refine (compare_any (some ⟨b,off,none⟩) a' n n' cap cap' m m' w1 h1 h1').mono ?_
 rintro e w2 ⟨rfl,hb2⟩
 have hba2:=hba.kept hb2
 have hbb2:=hbb.kept hb2
 have hby2:=hby.kept hb2
 have hca:=hba2.cell
 have hN2:=h1'.kept hb2
 have HB2:=hide (gr_trans (unhide hB) hb2)
 have hs2:=(unhide HB2).size
 clear hb2 h1 h1' hc1 hf1 hba hbb hby
 go_wp2_with fail
 refine (clone_some b off cap n xs w2 hn hp (by omega) (by omega) (fun j hj=>((unhide HB2).cell (by exact hlt)).trans (unhide hc j hj))).mono ?_
 rintro e w3 ⟨g,c,rfl,hg,hgc,hc9,hrow,_,hb3⟩
 have hbb3:=hbb2.kept hb3
 have hby3:=hby2.kept hb3
 have hcb:=hbb3.cell
 have hN3:=hN2.kept hb3
 have HB3:=hide (gr_trans (unhide HB2) hb3)
 have hgy:w.heap.size+1+1 < g:=Nat.lt_of_lt_of_le hby2.lt hg
 have hgw:w.heap.size≤g:=Nat.le_trans hs2 hg
 have HG:=hide (And.intro hg (And.intro hgy hgw))
 have hnc:∀ B2 off2,a' = some ⟨B2,off2,none⟩→0 < n'→B2≠g:=by
  intro B2 off2 e h0 hbb
  obtain ⟨ys,kn,kl,_⟩:=hN2
  rcases kl.parts with hx|⟨_,b2,off2',ha,hblt,_⟩
  ·rw [hx] at kn; simp at kn; omega
  ·rw [ha] at e; injection e with e; injection e with e1; omega
 have HC:=hide hnc
 clear hb3 hca hba2 hbb2 hby2 hN2 hnc hg hgy hgw
 go_wp2_with fail
 refine (?_:Calls Tryz.prog 70 #[.slice (some ⟨g,0,none⟩) n c,.slice a' n' cap'] w3 fun e w'=>∃ (out:List Nat),e = .returned (.tuple #[])∧out.length = n∧Pl.Wf out∧Pl.val out = m - m'∧Row w' g out∧Only g w3 w').mono ?_
 ·obtain ⟨ys,kn',kl',kw',kN',kv',kb'⟩:=hN3
  rcases kl'.parts with hx|⟨h0,b2,off2,rfl,_,kc⟩
  ·have hn0:n' = 0:=by rw [← kn',hx]; rfl
   have hm0:m' = 0:=by rw [← kv',hx]; rfl
   subst hn0 hm0
   refine (takeInto_zero g n c cap' a' xs w3 hn (by omega) hw hrow).mono ?_
   rintro e w' ⟨out,he,ho,hw',hv',hr,hO⟩
   exact ⟨out,he,ho,hw',by rw [hv',unhide hv]; rfl,hr,hO⟩
  ·refine (takeInto_some g n b2 off2 n' c cap' xs ys w3 hn (hide kn') (unhide HNN).1 (by omega) (unhide HC b2 off2 rfl (by omega)) (hide (by rw [kv',unhide hv]; exact unhide HLE)) hw kw' hrow (fun j hj=>kc j (by omega))).mono ?_
   rintro e w' ⟨out,he,ho,hw',hv',hr,hO⟩
   exact ⟨out,he,ho,hw',by rw [hv',kv',unhide hv],hr,hO⟩
 rintro e w4 ⟨out,rfl,hol,how,hov,hrow4,honly⟩
 obtain ⟨hg,hgy,hgw⟩:=unhide HG
 have hby4:=hby3.but honly (Nat.ne_of_lt hgy)
 have HB4:=hide (honly.below (unhide HB3) hgw)
 have HV:=hide hov
 clear hov honly hcb hbb3 hby3 hN3 hrow HB3
 go_wp2_with fail
 refine (trim_at g 0 n c out w4 hol hgc hc9 (fun j hj=>by rw [Nat.zero_add]; exact hrow4.cell j hj)).mono ?_
 rintro e w5 ⟨rfl,l,hl1,h0,h1,rfl⟩
 have HT:=hide (trim_row hrow4 hgw (by omega) how hl1 h0 h1)
 have hcx:=hby4.cell
 have hfx:=hby4.frozen
 have HL:=hide (show l≤16384 by omega)
 clear h0 h1 hl1
 go_wp2
 obtain ⟨t1,t2,t3,t4,t5⟩:=unhide HT
 exact bodyPost_ret (v:=.tuple #[.agg #[.slice (some ⟨g,0,none⟩) l l],.bool true,.int .i64 0]) (by simp [results,Tryz.results36,go_sem,hcx]) rfl ⟨Or.inr ⟨unhide HLE,_,l,l,rfl,out.take l,t1,t2.setBox hby4 _,t3,t4,t5.trans (unhide HV),unhide HL⟩,(unhide HB4).setCell (Nat.le_add_right _ 2) _⟩
theorem sub_none (a a':Option Addr) (cap cap':Nat) (w:World) :
  Calls Tryz.prog 36 #[.agg #[.slice a 0 cap],.agg #[.slice a' 0 cap']] w fun e w'=>SubAns w' w.heap.size e 0 0∧Below w.heap.size w w':=by
 have hz:∀ (w:World) (a:Option Addr),Num w a 0 0:=fun w a=>⟨[],rfl,Or.inl rfl,Pl.wf_nil,Pl.norm_nil,rfl,by omega⟩
 have hck:=fun (o1 o2 o3:Obj)=>checkBoth_any a a' cap cap' [] [] (((w.alloc o1).alloc o2).alloc o3) (by simp) (by simp) (Or.inl rfl) (Or.inl rfl)
 rw [chk2_ok (chk_ok (by simp) Pl.norm_nil) (chk_ok (by simp) Pl.norm_nil)] at hck
 have HK:=hide hck
 have HZ:=hide hz
 clear hck hz
 go_enter Tryz.func36,Tryz.ntmps36
 go_wp2_with fail
 refine (unhide HK _ _ _).mono ?_
 rintro e w1 ⟨rfl,hb1⟩
 have hbb:=((Box.made (w.alloc (.cells #[.slice a 0 cap] 26)) (.slice a' 0 cap')).alloc (.cells #[.slice none 0 0] 26)).kept hb1
 have hby:=(Box.made ((w.alloc (.cells #[.slice a 0 cap] 26)).alloc (.cells #[.slice a' 0 cap'] 26)) (.slice none 0 0)).kept hb1
 have hba:=(((Box.made w (.slice a 0 cap)).alloc (.cells #[.slice a' 0 cap'] 26)).alloc (.cells #[.slice none 0 0] 26)).kept hb1
 simp only [World.size_alloc] at hby hbb hba
 have hB:=hide (gr_trans (gr_trans (gr_trans (gr_alloc w (.cells #[.slice a 0 cap] 26)) (gr_alloc _ (.cells #[.slice a' 0 cap'] 26))) (gr_alloc _ (.cells #[.slice none 0 0] 26))) hb1)
 have hca:=hba.cell
 have hcb:=hbb.cell
 clear hb1 HK
 go_wp2_with fail
 refine (compare_any a a' 0 0 cap cap' 0 0 w1 (unhide HZ _ _) (unhide HZ _ _)).mono ?_
 rintro e w2 ⟨rfl,hb2⟩
 rw [cmpI_eq]
 have hba2:=hba.kept hb2
 have hbb2:=hbb.kept hb2
 have hby2:=hby.kept hb2
 have hca2:=hba2.cell
 have HB2:=hide (gr_trans (unhide hB) hb2)
 clear hb2 hca hcb hba hbb hby
 go_wp2_with fail
 refine (clone_any a 0 cap 0 w2 (unhide HZ _ _)).mono ?_
 rintro e w3 ⟨⟨a3,c3,rfl,hm3⟩,hb3⟩
 have hbb3:=hbb2.kept hb3
 have hby3:=hby2.kept hb3
 have hcb3:=hbb3.cell
 have hcx:=hby3.cell
 have hfx:=hby3.frozen
 have HB3:=hide (gr_trans (unhide HB2) hb3)
 have HO:=hide ((hm3.mono (unhide HB2).size).cut0)
 clear hb3 hca2 hba2 hbb2 hby2 hm3
 go_wp2_with fail
 refine (takeInto_none c3 a3 a' 0 cap' w3).mono ?_
 rintro e w4 ⟨rfl,rfl⟩
 go_wp2_with fail
 refine (trim_empty a3 c3 w4).mono ?_
 rintro e w5 ⟨rfl,rfl⟩
 go_wp2
 exact bodyPost_ret (v:=.tuple #[.agg #[.slice a3 0 0],.bool true,.int .i64 0]) (by simp [results,Tryz.results36,go_sem,hcx]) rfl ⟨Or.inr ⟨Nat.le_refl _,_,0,0,rfl,[],rfl,(unhide HO).setBox hby3 _,Pl.wf_nil,Pl.norm_nil,rfl,by omega⟩,(unhide HB3).setCell (Nat.le_add_right _ 2) _⟩
theorem sub_any (a a':Option Addr) (n n' cap cap' m m':Nat) (w:World) (h:Num w a n m) (h':Num w a' n' m') :
  Calls Tryz.prog 36 #[.agg #[.slice a n cap],.agg #[.slice a' n' cap']] w fun e w'=>SubAns w' w.heap.size e m m'∧Below w.heap.size w w':=by
 by_cases hlt:m < m'
 ·exact sub_lt a a' n n' cap cap' m m' w h h' hlt
 ·have hN:=h
  obtain ⟨xs,hn,hl,hw,hNn,hv,hb⟩:=h
  rcases hl.parts with hx|⟨hp,b,off,rfl,hltb,hcx⟩
  ·have hm0:m = 0:=by rw [← hv,hx]; rfl
   have hn0:n = 0:=by rw [← hn,hx]; rfl
   have hm':m' = 0:=by omega
   have hn':=(h'.zero).2 hm'
   subst hm0 hn0 hm' hn'
   exact sub_none a a' cap cap' w
  ·exact sub_ge b off a' n n' cap cap' m m' xs w hN h' (by omega) (hide hn) (by omega) (hide hv) hw hltb (hide fun j hj=>hcx j (by omega))
theorem cmpN_any (a a':Option Addr) (n n' cap cap' m m':Nat) (w:World) (h:Num w a n m) (h':Num w a' n' m') :
  Calls Tryz.prog 34 #[.agg #[.slice a n cap],.agg #[.slice a' n' cap']] w fun e w'=>e = .returned (.tuple #[.int .i64 (cmpI m m'),.int .i64 0])∧Below w.heap.size w w':=by
 have HK:=hide (fun (o1 o2:Obj)=>checkBoth_num a a' n n' cap cap' m m' ((w.alloc o1).alloc o2) ((h.alloc _).alloc _) ((h'.alloc _).alloc _))
 have H:=hide (And.intro h h')
 clear h h'
 go_enter Tryz.func34,Tryz.ntmps34
 go_wp2_with fail
 refine (unhide HK _ _).mono ?_
 rintro e w1 ⟨rfl,hb1⟩
 obtain ⟨hc1,hf1⟩:=bcell hb1
 have HB:=hide (gr_trans (gr_trans (gr_alloc w (.cells #[.slice a n cap] 26)) (gr_alloc _ (.cells #[.slice a' n' cap'] 26))) hb1)
 clear hb1
 go_wp2_with fail
 refine (compare_any a a' n n' cap cap' m m' w1 ((unhide H).1.kept (unhide HB)) ((unhide H).2.kept (unhide HB))).mono ?_
 rintro e w2 ⟨rfl,hb2⟩
 go_wp2
 go_ret2
 exact ⟨rfl,gr_trans (unhide HB) hb2⟩
end Go.Proofs.YtfjegmlpkiaifaaGreatDoor
