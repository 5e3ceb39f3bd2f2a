/- Of what PowerTensRow stands on: RefLow. -/
import Derived.Test.YteblliofeaahmaaDoorPaq
import Derived.Test.YteblliofeaahmaaDoorPam
import Derived.Deep.RegionWith
namespace Go.Proofs.YteblliofeaahmaaDoor
open Go.RowKit
set_option maxHeartbeats 400000
theorem ret_low {a b:Int} {v:Value} (h:a = b):Ending.returned (.tuple #[.int .u64 a,v]) = .returned (.tuple #[.int .u64 b,v]):=by rw [h]
theorem rlow_small (a:Option Addr) (n cap m:Nat) (w:World) (h:Num w a n m) (hn2:n≤2) :
  Calls Tryd.prog 57 #[.agg #[.slice a n cap]] w fun e w'=>e = .returned (.tuple #[.int .u64 (m:Int),.bool true])∧Below w.heap.size w w':=by
 have HK:=hide (fun (o1:Obj)=>rcheck_num a n cap m (w.alloc o1) (h.alloc o1))
 obtain ⟨xs,hn,hl,hw,hN,hv,hb⟩:=h
 obtain ⟨x,hxx⟩:∃ x,x = xs[0]?.getD 0:=⟨_,rfl⟩
 obtain ⟨y,hyy⟩:∃ y,y = xs[1]?.getD 0:=⟨_,rfl⟩
 have hx1:x < 4294967296:=by rw [hxx]; exact Pl.wf_at hw _
 have hy1:y < 4294967296:=by rw [hyy]; exact Pl.wf_at hw _
 have HM:Hid (y * 4294967296+x = m):=hide (by
  rw [hxx,hyy,← hv]
  match xs,hn with
  | [],_=>rfl
  | [p],_=>simp [Pl.val]
  | [p,q],_=>simp [Pl.val]; omega
  | _ :: _ :: _ :: _,hn=>simp at hn; omega)
 have L0:∀ (W:World) (_:Lim W a xs),Calls Tryd.prog 87 #[.slice a n cap,.int .i64 0] W fun e w'=>e = .returned (.int .u64 ((xs[0]?.getD 0:Nat):Int))∧w' = W:=fun W h=>(rlimb_any a n cap 0 xs W hn h hw (by omega)).mono (fun e w' ⟨h1,h2⟩=>⟨h1,h2.symm⟩)
 have L1:∀ (W:World) (_:Lim W a xs),Calls Tryd.prog 87 #[.slice a n cap,.int .i64 1] W fun e w'=>e = .returned (.int .u64 ((xs[1]?.getD 0:Nat):Int))∧w' = W:=fun W h=>(rlimb_any a n cap 1 xs W hn h hw (by omega)).mono (fun e w' ⟨h1,h2⟩=>⟨h1,h2.symm⟩)
 rw [← hxx] at L0
 rw [← hyy] at L1
 have HL0:=hide L0
 have HL1:=hide L1
 have HL:=hide hl
 clear hxx hyy L0 L1 hl hn hv hN
 go_enter Tryd.func57,Tryd.ntmps57
 go_wp2_with fail
 refine (unhide HK _).mono ?_
 rintro e w1 ⟨rfl,hb1⟩
 have hbx:=(Box.made w (.slice a n cap)).kept hb1
 have hcx:=hbx.cell
 have HB:=hide (gr_trans (gr_alloc w (.cells #[.slice a n cap] 65)) hb1)
 have HLW:=hide (fun nq:Nat=>(unhide HL).below (below_drewN (unhide HB) nq))
 clear hb1 hbx
 go_wp2_with fail
 go_quiet (first|(go_at_call_of 87 (Value.int .i64 0); exact Calls.quiet_of_same (unhide HL0 _ (unhide HLW _)))|(go_at_call_of 87 (Value.int .i64 1); exact Calls.quiet_of_same (unhide HL1 _ (unhide HLW _))))
 go_wp2
 go_ret2
 refine ⟨ret_low ?_,below_drewN (unhide HB) _⟩
 rw [or_limb2 y x hy1 hx1,unhide HM]
end Go.Proofs.YteblliofeaahmaaDoor
