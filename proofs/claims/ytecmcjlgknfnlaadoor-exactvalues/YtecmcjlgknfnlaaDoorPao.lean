/- Of what ExactValuesRow stands on: RefMul. -/
import Derived.Test.YtecmcjlgknfnlaaDoorPaf
import Derived.Test.YtecmcjlgknfnlaaDoorPae
import Derived.Deep.LoopGhost
import Derived.BigQuiet
namespace Go.Proofs.YtecmcjlgknfnlaaDoor
open Go.RowKit
theorem rtrim_row {w : World} {B base n cap : Nat} {zs : List Nat} (h : Row w B zs) (hB : base ≤ B) (hz : zs.length ≤ 9223372036854775807) (wz : Pl.Wf zs) (hn : n ≤ zs.length) (hc : cap ≤ zs.length) (hnc : n ≤ cap)
  (h0 : ∀ j,n ≤ j → j < zs.length → zs[j]?.getD 0 = 0) (h1 : n = 0 ∨ zs[n - 1]?.getD 0 ≠ 0) :
  (zs.take n).length = n ∧ Own w base (.slice (some ⟨B,0,none⟩) n cap) (zs.take n) ∧ Pl.Wf (zs.take n) ∧ Pl.Norm (zs.take n) ∧ Pl.val (zs.take n) = Pl.val zs := by
 obtain ⟨a1,_,a3,a4,a5⟩ := trim_row h hB hz wz hn h0 h1
 exact ⟨a1,h.own hB n cap hnc hc hz,a3,a4,a5⟩
theorem rnat_any (v : Value) (a : Option Addr) (n c : Nat) (w : World) (hv : v = .slice a n c) :
  Calls Tryd.prog 78 #[v] w fun e w' => e = .returned (.agg #[.slice a n c]) ∧ w' = w.alloc (.cells #[.slice a n c] 24) := by
 subst hv
 go_enter Tryd.func78,Tryd.ntmps78
 go_wp2
 exact bodyPost_ret (v := .agg #[.slice a n c]) (by simp [results,Tryd.results78,go_sem]) rfl ⟨rfl,rfl⟩
set_option maxHeartbeats 400000 in
theorem rof_any (u : Nat) (w : World) (hu : u < 18446744073709551616) :
  Calls Tryd.prog 46 #[.int .u64 (u : Int)] w fun e w' => (∃ a n cap,e = .returned (.agg #[.slice a n cap]) ∧ Mine w' w.heap.size a n cap u) ∧ Below w.heap.size w w' := by
 have hrow : ∀ o : Obj,Row ((w.alloc o).alloc (.cells #[.int .u32 ((u : Int) % 4294967296),.int .u32 ((u : Int) / 4294967296)] 48)) (w.heap.size + 1) [u % 4294967296,u / 4294967296] := by
  intro o
  refine ⟨#[],?_⟩
  rw [heap_alloc2_new]
  simp [lc]
 have HR := hide hrow
 clear hrow
 have hwf : Pl.Wf [u % 4294967296,u / 4294967296] := Pl.wf_cons (by omega) (Pl.wf_one (by omega))
 have hval : Pl.val [u % 4294967296,u / 4294967296] = u := by simp [Pl.val]; omega
 have HV := hide hval
 clear hval
 go_enter Tryd.func46,Tryd.ntmps46
 go_wp2_with fail
 refine (rtrim_at (w.heap.size + 1) 0 2 2 [u % 4294967296,u / 4294967296] _ rfl (by omega) (by omega) (fun j hj => by rw [Nat.zero_add]; exact (unhide HR _).cell j hj)).mono ?_
 rintro e w1 ⟨rfl,n,hn,h0,h1,rfl⟩
 have hn2 : n ≤ 2 := hn
 have HT := hide (fun o : Obj => rtrim_row (cap := 2) (unhide HR o) (show w.heap.size ≤ w.heap.size + 1 by omega) (by simp) hwf hn (by simp) hn2 h0 h1)
 clear h0 h1 hn
 go_wp2_with fail
 refine (rnat_any _ _ n 2 _ rfl).mono ?_
 rintro e w2 ⟨rfl,rfl⟩
 have hbx := (((Box.made w (.slice none 0 0)).alloc (.cells #[.int .u32 ((u : Int) % 4294967296),.int .u32 ((u : Int) / 4294967296)] 48)).alloc (.cells #[.slice (some ⟨w.heap.size + 1,0,none⟩) n 2] 24))
 have hcx := hbx.cell
 have hfx := hbx.frozen
 go_wp2
 obtain ⟨t1,t2,t3,t4,t5⟩ := unhide HT (.cells #[.slice (some ⟨w.heap.size + 1,0,none⟩) n 2] 24)
 refine bodyPost_ret (v := .agg #[.slice (some ⟨w.heap.size + 1,0,none⟩) n 2]) (by simp [results,Tryd.results46,go_sem]) rfl ⟨⟨_,n,2,rfl,_,t1,t2.kept (gr_alloc _ _),t3,t4,t5.trans (unhide HV),by omega⟩,gr_trans (gr_trans (gr_alloc _ _) (gr_alloc _ _)) (gr_alloc _ _)⟩
end Go.Proofs.YtecmcjlgknfnlaaDoor
