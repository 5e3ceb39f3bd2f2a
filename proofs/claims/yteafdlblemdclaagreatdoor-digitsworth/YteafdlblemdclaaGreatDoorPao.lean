/- Of what DigitsWorthRow stands on: Sub. -/
import Derived.Test.YteafdlblemdclaaGreatDoorPak
import Derived.Test.YteafdlblemdclaaGreatDoorPad
import Derived.Test.YteafdlblemdclaaGreatDoorPai
namespace Go.Proofs.YteafdlblemdclaaGreatDoor
open Go.RowKit
set_option maxHeartbeats 1000000
def SubAns (w:World) (base:Nat) (e:Ending) (m m':Nat):Prop:=
 (m < m'∧e = .returned (.tuple #[.agg #[.slice none 0 0],.bool false,.int .i64 0])) ∨
 (m'≤m∧∃ a n cap,e = .returned (.tuple #[.agg #[.slice a n cap],.bool true,.int .i64 0])∧Mine w base a n cap (m - m'))
theorem cmp_ge {m m':Nat} (h:m'≤m):decide (cmpI m m' < 0) = false:=by
 by_cases e:m = m'
 ·rw [e,cmpI_eq]; decide
 ·rw [cmpI_gt (by omega)]; decide
theorem Box.but {w w':World} {p C:Nat} {v:Value} (h:Box w p v) (k:Only C w w') (hne:p≠C):Box w' p v:=by
 unfold Box; rw [k.block p hne]; exact h
theorem Mine.cut0 {w:World} {base c m:Nat} {a:Option Addr} (h:Mine w base a 0 c m):Own w base (.slice a 0 0) []:=by
 obtain ⟨xs,hn,ho,_⟩:=h
 obtain rfl:xs = []:=List.length_eq_zero_iff.1 hn
 rcases ho with ⟨e,_⟩|⟨g,cap,cur,e,hg,hh,h1,h2,h3,hc⟩
 ·injection e with e1 e2 e3
  exact Or.inl ⟨by rw [e1],rfl⟩
 ·injection e with e1 e2 e3
  exact Or.inr ⟨g,0,cur,by rw [e1]; rfl,hg,hh,Nat.zero_le _,Nat.zero_le _,by omega,fun j hj=>by simp at hj⟩
theorem checkBoth_num (a a':Option Addr) (n n' cap cap' m m':Nat) (w:World) (h:Num w a n m) (h':Num w a' n' m') :
  Calls Tryz.prog 68 #[.agg #[.slice a n cap],.agg #[.slice a' n' cap']] w fun e w'=>e = .returned (.int .i64 0)∧Below w.heap.size w w':=by
 obtain ⟨zs,kn,kl,kw,kN,kv,kb⟩:=h
 obtain ⟨ys,kn',kl',kw',kN',kv',kb'⟩:=h'
 have:=checkBoth_any a a' cap cap' zs ys w (by omega) (by omega) kl kl'
 rw [kn,kn',chk2_ok (chk_ok (by omega) kN) (chk_ok (by omega) kN')] at this
 exact this
theorem sub_lt (a a':Option Addr) (n n' cap cap' m m':Nat) (w:World) (h:Num w a n m) (h':Num w a' n' m') (hlt:m < m') :
  Calls Tryz.prog 194 #[.agg #[.slice a n cap],.agg #[.slice a' n' cap']] w fun e w'=>SubAns w' w.heap.size e m m'∧Below w.heap.size w w':=by
 have hN:=h
 have hN':=h'
 obtain ⟨xs,hn,hl,hw,hNn,hv,hb⟩:=h
 obtain ⟨ys,hn',hl',hw',hNn',hv',hb'⟩:=h'
 have hck:=fun (o1 o2 o3:Obj)=>checkBoth_any a a' cap cap' xs ys (((w.alloc o1).alloc o2).alloc o3) (by omega) (by omega) (((hl.alloc _).alloc _).alloc _) (((hl'.alloc _).alloc _).alloc _)
 rw [hn,hn',chk2_ok (chk_ok (by omega) hNn) (chk_ok (by omega) hNn')] at hck
 have HK:=hide hck
 have hcm:=cmpI_lt hlt
 have HLT:=hide hlt
 clear hck hn hn' hv hv' hl hl' hlt
 go_enter Tryz.func194,Tryz.ntmps194
 go_wp2_with fail
 refine (unhide HK _ _ _).mono ?_
 rintro e w1 ⟨rfl,hb1⟩
 obtain ⟨hc1,hf1⟩:=bcell hb1
 have hby:=(Box.made ((w.alloc (.cells #[.slice a n cap] 28)).alloc (.cells #[.slice a' n' cap'] 28)) (.slice none 0 0)).kept hb1
 simp only [World.size_alloc] at hby
 have hB:=hide (gr_trans (gr_trans (gr_trans (gr_alloc w (.cells #[.slice a n cap] 28)) (gr_alloc _ (.cells #[.slice a' n' cap'] 28))) (gr_alloc _ (.cells #[.slice none 0 0] 28))) hb1)
 have h1:=hN.kept (unhide hB)
 have h1':=hN'.kept (unhide hB)
 clear hb1 HK hN hN'
 go_wp2_with fail
 refine (compare_any a a' n n' cap cap' m m' w1 h1 h1').mono ?_
 rintro e w2 ⟨rfl,hb2⟩
 rw [hcm]
 have hX2:=hby.kept hb2
 have hcx:=hX2.cell
 have hfx:=hX2.frozen
 have HB2:=hide (gr_trans (unhide hB) hb2)
 clear hb2 h1 h1' hc1 hf1
 go_wp2
 exact bodyPost_ret (v:=.tuple #[.agg #[.slice none 0 0],.bool false,.int .i64 0]) (by simp [results,Tryz.results194,go_sem,hcx]) rfl ⟨Or.inl ⟨unhide HLT,rfl⟩,(unhide HB2).setCell (Nat.le_add_right _ 2) _⟩
end Go.Proofs.YteafdlblemdclaaGreatDoor
