/- Of what NearMeetsRow stands on: Add. -/
import Derived.Test.YtaidedkpfnidpaaGreatDoorPad
import Derived.BigQuiet
import Derived.Laws.CopyOwn
import Derived.Deep.Cut
namespace Go.Proofs.YtaidedkpfnidpaaGreatDoor
open Go.RowKit
set_option maxHeartbeats 1000000
theorem Tryz.size_limb:(Tryz.prog.info? 42).map (·.size) = some 1:=by kernel_rfl
theorem Box.only {w w':World} {p C:Nat} {v:Value} (h:Box w p v) (k:Only C w w') (hne:p≠C):Box w' p v:=by
 unfold Box; rw [k.block p hne]; exact h
theorem addInto_lim (B p n m cap cap':Nat) (a:Option Addr) (pre d post xs:List Nat) (w:World) (hp:pre.length = p) (hd:d.length = n) (hx:xs.length = m) (hmn:m≤n) (hlen:n≤40000) (hne:∀ b off,a = some ⟨b,off,none⟩→0 < xs.length→b≠B)
  (wd:Pl.Wf d) (wx:Pl.Wf xs) (hrow:Row w B (pre ++ d ++ post)) (hl:Lim w a xs) :
  Calls Tryz.prog 158 #[.slice (some ⟨B,p,none⟩) n cap,.slice a m cap'] w
   fun e w'=>∃ (out:List Nat) (c:Nat),e = .returned (.bool (c != 0))∧out.length = n∧Pl.Wf out∧c≤1∧Pl.val out+4294967296 ^ n * c = Pl.val d+Pl.val xs∧Row w' B (pre ++ out ++ post)∧Only B w w':=by
 rcases hl.parts with h0|⟨h0,b,off,rfl,_,hc⟩
 ·subst h0
  obtain rfl:m = 0:=by rw [← hx]; rfl
  exact addInto_nil B p n cap cap' a pre d post w (hide hp) (hide hd) hlen wd hrow
 ·exact addInto_some B p n b off m cap cap' pre d post xs w (hide hp) (hide hd) (hide hx) hmn hlen (hne b off rfl h0) wd wx hrow (fun j hj=>hc j (by omega))
theorem sum_fits0 {X Y O P R c:Nat} (hX:X < P) (hY:Y < R) (hR:R≤P) (h:O+P * 4294967296 * c = X+Y):O = X+Y:=by
 cases c with
 | zero=>rw [Nat.mul_zero,Nat.add_zero] at h; exact h
 | succ c=>
  have h6:P * 4294967296 * 1≤P * 4294967296 * (c+1):=Nat.mul_le_mul_left _ (Nat.le_add_left 1 c)
  omega
theorem sum_fits {X Y O n k c:Nat} (hX:X < 4294967296 ^ n) (hY:Y < 4294967296 ^ k) (hk:k≤n) (h:O+4294967296 ^ (n+1) * c = X+Y):O = X+Y:=
 sum_fits0 hX hY (Pl.pow_le hk) (by rw [← Nat.pow_succ]; exact h)
theorem copy_new (w:World) (a:Option Addr) (n cap:Nat) (xs:List Nat) (hn:xs.length = n) (hl:Lim w a xs) (hb:n≤16384) :
  ∃ w2,(Builtin.copy_ #[25,25] 3 #[.slice (some ⟨w.heap.size,0,none⟩) (n+1) (n+1),.slice a n cap]).run Tryz.prog (w.alloc (.cells (lc (List.replicate (n+1) 0)) 42)) = .ok (.int .i64 (n:Int)) w2 ∧
   Row w2 w.heap.size ([] ++ (xs ++ [0]) ++ [])∧Below w.heap.size w w2:=by
 rcases hl.parts with hx|⟨hp,b,off,rfl,hlt,hc⟩
 ·subst hx
  obtain rfl:n = 0:=by rw [← hn]; rfl
  exact ⟨_,run_copy_none (P:=Tryz.prog) _ 25 25 3 42 _ a _ _ 0 cap Tryz.under_limbs Tryz.size_limb (by simp),Row.made w [0],gr_alloc _ _⟩
 ·have hg:=heap_alloc_new w (.cells (lc (List.replicate (n+1) 0)) 42)
  have hrun:=run_copy_row (P:=Tryz.prog) (w.alloc (.cells (lc (List.replicate (n+1) 0)) 42)) 25 25 3 42 w.heap.size 0 (n+1) (n+1) ⟨b,off,none⟩ n cap (lc (List.replicate (n+1) 0)) 42 (xs.map (fun z:Nat=>Value.int .u32 (z:Int))) Tryz.under_limbs Tryz.size_limb hg
   (by rw [List.length_map,hn]; exact (Nat.min_eq_left (by omega)).symm)
   (fun j v hj=>by
    have hjn:j < xs.length:=by have:=(List.getElem?_eq_some_iff.1 hj).1; simpa using this
    have hv:v = .int .u32 ((xs[j]?.getD 0:Nat):Int):=by
     rw [List.getElem?_map,List.getElem?_eq_getElem hjn] at hj
     simp at hj
     rw [← hj]
     simp [hjn]
    rw [hv,Addr.add_lit,(gr_alloc w _).cell (by exact hlt)]
    exact hc j hjn)
   (by rw [List.length_map,size_lc,List.length_replicate,hn]; omega)
   (fun u hu=>by obtain ⟨z,_,rfl⟩:=List.mem_map.1 hu; rfl)
  rw [List.length_map,hn] at hrun
  refine ⟨_,hrun,⟨#[],?_⟩,below_setRow (gr_alloc _ _) (Nat.le_refl _) _⟩
  rw [setRow_heap _ _ _ _ _ _ hg]
  simp only [lc,List.take_zero,List.nil_append,Nat.zero_add,List.append_nil]
  rw [← List.map_drop,List.drop_replicate,← List.map_append]
  simp
theorem add_gt (a a':Option Addr) (n n' cap cap':Nat) (xs ys:List Nat) (w:World) (hn:Hid (xs.length = n)) (hn':Hid (ys.length = n')) (hl:Lim w a xs) (hl':Lim w a' ys) (hw:Pl.Wf xs) (hw':Pl.Wf ys) (hN:Pl.Norm xs) (hN':Pl.Norm ys) (hb:n≤16384) (hb':n'≤16384) (hlt:n' < n) :
  Calls Tryz.prog 148 #[.agg #[.slice a n cap],.agg #[.slice a' n' cap']] w fun e w'=>Ans w' w.heap.size e (Pl.val xs+Pl.val ys)∧Below w.heap.size w w':=by
 have hck:=fun (o1 o2 o3:Obj)=>checkBoth_any a a' cap cap' xs ys (((w.alloc o1).alloc o2).alloc o3) (by rw [unhide hn]; omega) (by rw [unhide hn']; omega) (((hl.alloc _).alloc _).alloc _) (((hl'.alloc _).alloc _).alloc _)
 rw [unhide hn,unhide hn',chk2_ok (chk_ok (by rw [unhide hn]; omega) hN) (chk_ok (by rw [unhide hn']; omega) hN')] at hck
 have HK:=hide hck
 clear hck
 have hmk:=make_limbs ((n:Int)+1) (n+1) (by omega) (by omega)
 have HQ:=hide (And.intro (show n'≤n+1 by omega) (show n+1≤40000 by omega))
 go_enter Tryz.func148,Tryz.ntmps148
 go_wp2_with fail
 refine (unhide HK _ _ _).mono ?_
 rintro e w1 ⟨rfl,hb1⟩
 obtain ⟨hc1,hf1⟩:=bcell hb1
 have hby:=(Box.made ((w.alloc (.cells #[.slice a n cap] 27)).alloc (.cells #[.slice a' n' cap'] 27)) (.slice none 0 0)).kept hb1
 simp only [World.size_alloc] at hby
 have hB:=hide (gr_trans (gr_trans (gr_trans (gr_alloc w (.cells #[.slice a n cap] 27)) (gr_alloc _ (.cells #[.slice a' n' cap'] 27))) (gr_alloc _ (.cells #[.slice none 0 0] 27))) hb1)
 clear hb1 HK
 go_wp2_with fail
 go_quiet (fail)
 have hBq:=hide (below_drewN (unhide hB) nq)
 have hbq:Box (w1.drewN nq) (w.heap.size+1+1) (.slice none 0 0):=hby
 clear hB hby hc1 hf1
 generalize w1.drewN nq = wq at *
 have hsq:w.heap.size≤wq.heap.size:=(unhide hBq).size
 have hlL:=hl.below (unhide hBq)
 have hlS:=hl'.below (unhide hBq)
 have HL:=hide hlL
 have HS:=hide hlS
 have HX:=hide hbq
 clear hl hl' hlL hlS hbq
 obtain ⟨w2,hcp,hr2,hb2⟩:=copy_new wq a n cap xs (unhide hn) (unhide HL) (by omega)
 have hS2:=(unhide HS).below hb2
 have hX2:=(unhide HX).kept hb2
 have HB2:=hide (gr_trans (unhide hBq) hb2)
 have hz2:wq.heap.size≤w2.heap.size:=hb2.size
 have hxlt:=(unhide HX).lt
 have hlb:∀ b off,a' = some ⟨b,off,none⟩→0 < ys.length→b≠wq.heap.size:=by
  intro b off e h0 hbb
  rcases (unhide HS).parts with hx|⟨_,b2,off2,ha,hblt,_⟩
  ·rw [hx] at h0; simp at h0
  ·rw [ha] at e; injection e with e; injection e with e1; omega
 have HLB:=hide hlb
 have hd1:decide (n < n') = false:=by simp; omega
 have HA:=hide (And.intro hlt (And.intro hb' (And.intro hz2 (And.intro hxlt hsq))))
 clear hb2 hlb hlt hb' hz2 hxlt hsq
 go_upto_region 7 with fail
 go_wp2_with fail
 obtain ⟨hlt,hb',hz2,hxlt,hsq⟩:=unhide HA
 refine (addInto_lim wq.heap.size 0 (n+1) n' _ _ a' [] (xs ++ [0]) [] ys w2 rfl (by rw [List.length_append,unhide hn]; rfl) (unhide hn') (unhide HQ).1 (unhide HQ).2 (unhide HLB) (Pl.wf_append hw (Pl.wf_one (by decide))) hw' hr2 hS2).mono ?_
 clear hmk hcp
 rintro e w3 ⟨out,c,rfl,hol,how,hc1,hval,hr3,ho3⟩
 have hv3:Pl.val out = Pl.val xs+Pl.val ys:=by
  rw [Pl.val_append,Pl.val_one,Nat.mul_zero,Nat.add_zero] at hval
  have h1:=Pl.val_lt hw
  have h2:=Pl.val_lt hw'
  rw [unhide hn] at h1
  rw [unhide hn'] at h2
  exact sum_fits h1 h2 (Nat.le_of_lt hlt) hval
 have hX3:=Box.only hX2 ho3 (Nat.ne_of_lt hxlt)
 have HB3:=hide (ho3.below (unhide HB2) hsq)
 have hr3':Row w3 wq.heap.size out:=by simpa using hr3
 have HV:=hide hv3
 clear hval hr3 ho3 hX2 hr2 hS2 hv3 HB2
 go_wp2_with fail
 refine (limited_at wq.heap.size wq.heap.size (n+1) (n+1) out w3 hol hr3' (Nat.le_refl _) (Nat.le_refl _) (unhide HQ).2 how).mono ?_
 rintro e w4 ⟨hans,hb4⟩
 rw [unhide HV] at hans
 have hX4:=hX3.kept hb4
 have hcx:=hX4.cell
 have hfx:=hX4.frozen
 have HB4:=hide (gr_trans (unhide HB3) hb4)
 rcases hans with ⟨a5,n5,c5,rfl,hm⟩|⟨rfl,hm⟩
 ·have HM:=hide (hm.mono hsq)
  clear hm hb4
  go_wp2
  exact bodyPost_ret (v:=.tuple #[.agg #[.slice a5 n5 c5],.int .i64 0]) (by simp [results,Tryz.results148,go_sem,hcx]) rfl ⟨Or.inl ⟨_,_,_,rfl,(unhide HM).setBox hX4 _⟩,(unhide HB4).setCell (Nat.le_add_right _ 2) _⟩
 ·have HM:=hide hm
  clear hm hb4
  go_wp2
  exact bodyPost_ret (v:=.tuple #[.agg #[.slice none 0 0],.int .i64 4]) (by simp [results,Tryz.results148,go_sem,hcx]) rfl ⟨Or.inr ⟨rfl,unhide HM⟩,(unhide HB4).setCell (Nat.le_add_right _ 2) _⟩
theorem add_eq (a a':Option Addr) (n cap cap':Nat) (xs ys:List Nat) (w:World) (hn:Hid (xs.length = n)) (hn':Hid (ys.length = n)) (hl:Lim w a xs) (hl':Lim w a' ys) (hw:Pl.Wf xs) (hw':Pl.Wf ys) (hN:Pl.Norm xs) (hN':Pl.Norm ys) (hb:n≤16384) :
  Calls Tryz.prog 148 #[.agg #[.slice a n cap],.agg #[.slice a' n cap']] w fun e w'=>Ans w' w.heap.size e (Pl.val xs+Pl.val ys)∧Below w.heap.size w w':=by
 have hck:=fun (o1 o2 o3:Obj)=>checkBoth_any a a' cap cap' xs ys (((w.alloc o1).alloc o2).alloc o3) (by rw [unhide hn]; omega) (by rw [unhide hn']; omega) (((hl.alloc _).alloc _).alloc _) (((hl'.alloc _).alloc _).alloc _)
 rw [unhide hn,unhide hn',chk2_ok (chk_ok (by rw [unhide hn]; omega) hN) (chk_ok (by rw [unhide hn']; omega) hN')] at hck
 have HK:=hide hck
 clear hck
 have hmk:=make_limbs ((n:Int)+1) (n+1) (by omega) (by omega)
 have HQ:=hide (And.intro (show n≤n+1 by omega) (show n+1≤40000 by omega))
 go_enter Tryz.func148,Tryz.ntmps148
 go_wp2_with fail
 refine (unhide HK _ _ _).mono ?_
 rintro e w1 ⟨rfl,hb1⟩
 obtain ⟨hc1,hf1⟩:=bcell hb1
 have hby:=(Box.made ((w.alloc (.cells #[.slice a n cap] 27)).alloc (.cells #[.slice a' n cap'] 27)) (.slice none 0 0)).kept hb1
 simp only [World.size_alloc] at hby
 have hB:=hide (gr_trans (gr_trans (gr_trans (gr_alloc w (.cells #[.slice a n cap] 27)) (gr_alloc _ (.cells #[.slice a' n cap'] 27))) (gr_alloc _ (.cells #[.slice none 0 0] 27))) hb1)
 clear hb1 HK
 go_wp2_with fail
 go_quiet (fail)
 have hBq:=hide (below_drewN (unhide hB) nq)
 have hbq:Box (w1.drewN nq) (w.heap.size+1+1) (.slice none 0 0):=hby
 clear hB hby hc1 hf1
 generalize w1.drewN nq = wq at *
 have hsq:w.heap.size≤wq.heap.size:=(unhide hBq).size
 have hlL:=hl.below (unhide hBq)
 have hlS:=hl'.below (unhide hBq)
 have HL:=hide hlL
 have HS:=hide hlS
 have HX:=hide hbq
 clear hl hl' hlL hlS hbq
 obtain ⟨w2,hcp,hr2,hb2⟩:=copy_new wq a n cap xs (unhide hn) (unhide HL) (by omega)
 have hS2:=(unhide HS).below hb2
 have hX2:=(unhide HX).kept hb2
 have HB2:=hide (gr_trans (unhide hBq) hb2)
 have hz2:wq.heap.size≤w2.heap.size:=hb2.size
 have hxlt:=(unhide HX).lt
 have hlb:∀ b off,a' = some ⟨b,off,none⟩→0 < ys.length→b≠wq.heap.size:=by
  intro b off e h0 hbb
  rcases (unhide HS).parts with hx|⟨_,b2,off2,ha,hblt,_⟩
  ·rw [hx] at h0; simp at h0
  ·rw [ha] at e; injection e with e; injection e with e1; omega
 have HLB:=hide hlb
 have HA:=hide (And.intro hz2 (And.intro hxlt hsq))
 clear hb2 hlb hz2 hxlt hsq
 go_upto_region 7 with fail
 go_wp2_with fail
 obtain ⟨hz2,hxlt,hsq⟩:=unhide HA
 refine (addInto_lim wq.heap.size 0 (n+1) n _ _ a' [] (xs ++ [0]) [] ys w2 rfl (by rw [List.length_append,unhide hn]; rfl) (unhide hn') (unhide HQ).1 (unhide HQ).2 (unhide HLB) (Pl.wf_append hw (Pl.wf_one (by decide))) hw' hr2 hS2).mono ?_
 clear hmk hcp
 rintro e w3 ⟨out,c,rfl,hol,how,hc1,hval,hr3,ho3⟩
 have hv3:Pl.val out = Pl.val xs+Pl.val ys:=by
  rw [Pl.val_append,Pl.val_one,Nat.mul_zero,Nat.add_zero] at hval
  have h1:=Pl.val_lt hw
  have h2:=Pl.val_lt hw'
  rw [unhide hn] at h1
  rw [unhide hn'] at h2
  exact sum_fits h1 h2 (Nat.le_refl _) hval
 have hX3:=Box.only hX2 ho3 (Nat.ne_of_lt hxlt)
 have HB3:=hide (ho3.below (unhide HB2) hsq)
 have hr3':Row w3 wq.heap.size out:=by simpa using hr3
 have HV:=hide hv3
 clear hval hr3 ho3 hX2 hr2 hS2 hv3 HB2
 go_wp2_with fail
 refine (limited_at wq.heap.size wq.heap.size (n+1) (n+1) out w3 hol hr3' (Nat.le_refl _) (Nat.le_refl _) (unhide HQ).2 how).mono ?_
 rintro e w4 ⟨hans,hb4⟩
 rw [unhide HV] at hans
 have hX4:=hX3.kept hb4
 have hcx:=hX4.cell
 have hfx:=hX4.frozen
 have HB4:=hide (gr_trans (unhide HB3) hb4)
 rcases hans with ⟨a5,n5,c5,rfl,hm⟩|⟨rfl,hm⟩
 ·have HM:=hide (hm.mono hsq)
  clear hm hb4
  go_wp2
  exact bodyPost_ret (v:=.tuple #[.agg #[.slice a5 n5 c5],.int .i64 0]) (by simp [results,Tryz.results148,go_sem,hcx]) rfl ⟨Or.inl ⟨_,_,_,rfl,(unhide HM).setBox hX4 _⟩,(unhide HB4).setCell (Nat.le_add_right _ 2) _⟩
 ·have HM:=hide hm
  clear hm hb4
  go_wp2
  exact bodyPost_ret (v:=.tuple #[.agg #[.slice none 0 0],.int .i64 4]) (by simp [results,Tryz.results148,go_sem,hcx]) rfl ⟨Or.inr ⟨rfl,unhide HM⟩,(unhide HB4).setCell (Nat.le_add_right _ 2) _⟩
theorem add_lt (a a':Option Addr) (n n' cap cap':Nat) (xs ys:List Nat) (w:World) (hn:Hid (xs.length = n)) (hn':Hid (ys.length = n')) (hl:Lim w a xs) (hl':Lim w a' ys) (hw:Pl.Wf xs) (hw':Pl.Wf ys) (hN:Pl.Norm xs) (hN':Pl.Norm ys) (hb:n≤16384) (hb':n'≤16384) (hlt:n < n') :
  Calls Tryz.prog 148 #[.agg #[.slice a n cap],.agg #[.slice a' n' cap']] w fun e w'=>Ans w' w.heap.size e (Pl.val xs+Pl.val ys)∧Below w.heap.size w w':=by
 have hck:=fun (o1 o2 o3:Obj)=>checkBoth_any a a' cap cap' xs ys (((w.alloc o1).alloc o2).alloc o3) (by rw [unhide hn]; omega) (by rw [unhide hn']; omega) (((hl.alloc _).alloc _).alloc _) (((hl'.alloc _).alloc _).alloc _)
 rw [unhide hn,unhide hn',chk2_ok (chk_ok (by rw [unhide hn]; omega) hN) (chk_ok (by rw [unhide hn']; omega) hN')] at hck
 have HK:=hide hck
 clear hck
 have hmk:=make_limbs ((n':Int)+1) (n'+1) (by omega) (by omega)
 have HQ:=hide (And.intro (show n≤n'+1 by omega) (show n'+1≤40000 by omega))
 go_enter Tryz.func148,Tryz.ntmps148
 go_wp2_with fail
 refine (unhide HK _ _ _).mono ?_
 rintro e w1 ⟨rfl,hb1⟩
 obtain ⟨hc1,hf1⟩:=bcell hb1
 have hby:=(Box.made ((w.alloc (.cells #[.slice a n cap] 27)).alloc (.cells #[.slice a' n' cap'] 27)) (.slice none 0 0)).kept hb1
 simp only [World.size_alloc] at hby
 have hB:=hide (gr_trans (gr_trans (gr_trans (gr_alloc w (.cells #[.slice a n cap] 27)) (gr_alloc _ (.cells #[.slice a' n' cap'] 27))) (gr_alloc _ (.cells #[.slice none 0 0] 27))) hb1)
 clear hb1 HK
 go_wp2_with fail
 go_quiet (fail)
 have hBq:=hide (below_drewN (unhide hB) nq)
 have hbq:Box (w1.drewN nq) (w.heap.size+1+1) (.slice none 0 0):=hby
 clear hB hby hc1 hf1
 generalize w1.drewN nq = wq at *
 have hsq:w.heap.size≤wq.heap.size:=(unhide hBq).size
 have hlL:=hl'.below (unhide hBq)
 have hlS:=hl.below (unhide hBq)
 have HL:=hide hlL
 have HS:=hide hlS
 have HX:=hide hbq
 clear hl hl' hlL hlS hbq
 obtain ⟨w2,hcp,hr2,hb2⟩:=copy_new wq a' n' cap' ys (unhide hn') (unhide HL) (by omega)
 have hS2:=(unhide HS).below hb2
 have hX2:=(unhide HX).kept hb2
 have HB2:=hide (gr_trans (unhide hBq) hb2)
 have hz2:wq.heap.size≤w2.heap.size:=hb2.size
 have hxlt:=(unhide HX).lt
 have hlb:∀ b off,a = some ⟨b,off,none⟩→0 < xs.length→b≠wq.heap.size:=by
  intro b off e h0 hbb
  rcases (unhide HS).parts with hx|⟨_,b2,off2,ha,hblt,_⟩
  ·rw [hx] at h0; simp at h0
  ·rw [ha] at e; injection e with e; injection e with e1; omega
 have HLB:=hide hlb
 clear hb2 hlb
 go_wp2_with fail
 refine (addInto_lim wq.heap.size 0 (n'+1) n _ _ a [] (ys ++ [0]) [] xs w2 rfl (by rw [List.length_append,unhide hn']; rfl) (unhide hn) (unhide HQ).1 (unhide HQ).2 (unhide HLB) (Pl.wf_append hw' (Pl.wf_one (by decide))) hw hr2 hS2).mono ?_
 clear hmk hcp
 rintro e w3 ⟨out,c,rfl,hol,how,hc1,hval,hr3,ho3⟩
 have hv3:Pl.val out = Pl.val xs+Pl.val ys:=by
  rw [Pl.val_append,Pl.val_one,Nat.mul_zero,Nat.add_zero] at hval
  have h1:=Pl.val_lt hw
  have h2:=Pl.val_lt hw'
  rw [unhide hn] at h1
  rw [unhide hn'] at h2
  rw [Nat.add_comm (Pl.val xs)]
  exact sum_fits h2 h1 (Nat.le_of_lt hlt) hval
 have hX3:=Box.only hX2 ho3 (Nat.ne_of_lt hxlt)
 have HB3:=hide (ho3.below (unhide HB2) hsq)
 have hr3':Row w3 wq.heap.size out:=by simpa using hr3
 have HV:=hide hv3
 clear hval hr3 ho3 hX2 hr2 hS2 hv3 HB2
 go_wp2_with fail
 refine (limited_at wq.heap.size wq.heap.size (n'+1) (n'+1) out w3 hol hr3' (Nat.le_refl _) (Nat.le_refl _) (unhide HQ).2 how).mono ?_
 rintro e w4 ⟨hans,hb4⟩
 rw [unhide HV] at hans
 have hX4:=hX3.kept hb4
 have hcx:=hX4.cell
 have hfx:=hX4.frozen
 have HB4:=hide (gr_trans (unhide HB3) hb4)
 rcases hans with ⟨a5,n5,c5,rfl,hm⟩|⟨rfl,hm⟩
 ·have HM:=hide (hm.mono hsq)
  clear hm hb4
  go_wp2
  exact bodyPost_ret (v:=.tuple #[.agg #[.slice a5 n5 c5],.int .i64 0]) (by simp [results,Tryz.results148,go_sem,hcx]) rfl ⟨Or.inl ⟨_,_,_,rfl,(unhide HM).setBox hX4 _⟩,(unhide HB4).setCell (Nat.le_add_right _ 2) _⟩
 ·have HM:=hide hm
  clear hm hb4
  go_wp2
  exact bodyPost_ret (v:=.tuple #[.agg #[.slice none 0 0],.int .i64 4]) (by simp [results,Tryz.results148,go_sem,hcx]) rfl ⟨Or.inr ⟨rfl,unhide HM⟩,(unhide HB4).setCell (Nat.le_add_right _ 2) _⟩
theorem add_any (a a':Option Addr) (n n' cap cap' m m':Nat) (w:World) (h:Num w a n m) (h':Num w a' n' m') :
  Calls Tryz.prog 148 #[.agg #[.slice a n cap],.agg #[.slice a' n' cap']] w fun e w'=>Ans w' w.heap.size e (m+m')∧Below w.heap.size w w':=by
 obtain ⟨xs,hn,hl,hw,hN,hv,hb⟩:=h
 obtain ⟨ys,hn',hl',hw',hN',hv',hb'⟩:=h'
 rw [← hv,← hv']
 by_cases hlt:n < n'
 ·exact add_lt a a' n n' cap cap' xs ys w (hide hn) (hide hn') hl hl' hw hw' hN hN' hb hb' hlt
 ·by_cases he:n = n'
  ·subst he
   exact add_eq a a' n cap cap' xs ys w (hide hn) (hide hn') hl hl' hw hw' hN hN' hb
  ·exact add_gt a a' n n' cap cap' xs ys w (hide hn) (hide hn') hl hl' hw hw' hN hN' hb hb' (by omega)
end Go.Proofs.YtaidedkpfnidpaaGreatDoor
