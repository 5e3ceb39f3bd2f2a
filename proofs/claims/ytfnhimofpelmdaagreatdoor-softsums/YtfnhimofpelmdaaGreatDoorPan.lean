/- Of what SoftSumsRow stands on: RefMul QDigits. -/
import Derived.Test.YtfnhimofpelmdaaGreatDoorPaf
import Derived.Test.YtfnhimofpelmdaaGreatDoorPae
import Derived.Deep.LoopGhost
import Derived.BigQuiet
import Derived.Test.YtfnhimofpelmdaaGreatDoorPag
namespace Go.Proofs.YtfnhimofpelmdaaGreatDoor
open Go.RowKit
set_option maxHeartbeats 400000
theorem rtrim_row {w : World} {B base n cap : Nat} {zs : List Nat} (h : Row w B zs) (hB : base ≤ B) (hz : zs.length ≤ 9223372036854775807) (wz : Pl.Wf zs) (hn : n ≤ zs.length) (hc : cap ≤ zs.length) (hnc : n ≤ cap)
  (h0 : ∀ j,n ≤ j → j < zs.length → zs[j]?.getD 0 = 0) (h1 : n = 0 ∨ zs[n - 1]?.getD 0 ≠ 0) :
  (zs.take n).length = n ∧ Own w base (.slice (some ⟨B,0,none⟩) n cap) (zs.take n) ∧ Pl.Wf (zs.take n) ∧ Pl.Norm (zs.take n) ∧ Pl.val (zs.take n) = Pl.val zs := by
 obtain ⟨a1,_,a3,a4,a5⟩ := trim_row h hB hz wz hn h0 h1
 exact ⟨a1,h.own hB n cap hnc hc hz,a3,a4,a5⟩
theorem rnat_any (v : Value) (a : Option Addr) (n c : Nat) (w : World) (hv : v = .slice a n c) :
  Calls Tryz.prog 62 #[v] w fun e w' => e = .returned (.agg #[.slice a n c]) ∧ w' = w.alloc (.cells #[.slice a n c] 45) := by
 subst hv
 go_enter Tryz.func62,Tryz.ntmps62
 go_wp2
 exact bodyPost_ret (v := .agg #[.slice a n c]) (by simp [results,Tryz.results62,go_sem]) rfl ⟨rfl,rfl⟩
theorem rof_any (u : Nat) (w : World) (hu : u < 18446744073709551616) :
  Calls Tryz.prog 71 #[.int .u64 (u : Int)] w fun e w' => (∃ a n cap,e = .returned (.agg #[.slice a n cap]) ∧ Mine w' w.heap.size a n cap u) ∧ Below w.heap.size w w' := by
 have hrow : ∀ o : Obj,Row ((w.alloc o).alloc (.cells #[.int .u32 ((u : Int) % 4294967296),.int .u32 ((u : Int) / 4294967296)] 130)) (w.heap.size + 1) [u % 4294967296,u / 4294967296] := by
  intro o
  refine ⟨#[],?_⟩
  rw [heap_alloc2_new]
  simp [lc]
 have HR := hide hrow
 clear hrow
 have hwf : Pl.Wf [u % 4294967296,u / 4294967296] := Pl.wf_cons (by omega) (Pl.wf_one (by omega))
 have hval : Pl.val [u % 4294967296,u / 4294967296] = u := by simp [Pl.val]; omega
 have HV := hide hval
 clear hval
 go_enter Tryz.func71,Tryz.ntmps71
 go_wp2_with fail
 refine (rtrim_at (w.heap.size + 1) 0 2 2 [u % 4294967296,u / 4294967296] _ rfl (by omega) (by omega) (fun j hj => by rw [Nat.zero_add]; exact (unhide HR _).cell j hj)).mono ?_
 rintro e w1 ⟨rfl,n,hn,h0,h1,rfl⟩
 have hn2 : n ≤ 2 := hn
 have HT := hide (fun o : Obj => rtrim_row (cap := 2) (unhide HR o) (show w.heap.size ≤ w.heap.size + 1 by omega) (by simp) hwf hn (by simp) hn2 h0 h1)
 clear h0 h1 hn
 go_wp2_with fail
 refine (rnat_any _ _ n 2 _ rfl).mono ?_
 rintro e w2 ⟨rfl,rfl⟩
 have hbx := (((Box.made w (.slice none 0 0)).alloc (.cells #[.int .u32 ((u : Int) % 4294967296),.int .u32 ((u : Int) / 4294967296)] 130)).alloc (.cells #[.slice (some ⟨w.heap.size + 1,0,none⟩) n 2] 45))
 have hcx := hbx.cell
 have hfx := hbx.frozen
 go_wp2
 obtain ⟨t1,t2,t3,t4,t5⟩ := unhide HT (.cells #[.slice (some ⟨w.heap.size + 1,0,none⟩) n 2] 45)
 refine bodyPost_ret (v := .agg #[.slice (some ⟨w.heap.size + 1,0,none⟩) n 2]) (by simp [results,Tryz.results71,go_sem]) rfl ⟨⟨_,n,2,rfl,_,t1,t2.kept (gr_alloc _ _),t3,t4,t5.trans (unhide HV),by omega⟩,gr_trans (gr_trans (gr_alloc _ _) (gr_alloc _ _)) (gr_alloc _ _)⟩
structure But (R : Nat) (w w' : World) : Prop where
 os : w'.os = w.os
 tape : w'.tape = w.tape
 output : w'.output = w.output
 size : w.heap.size ≤ w'.heap.size
 block : ∀ k,k < w.heap.size → k ≠ R → w'.heap[k]? = w.heap[k]?
theorem But.refl (R : Nat) (w : World) : But R w w := ⟨rfl,rfl,rfl,Nat.le_refl _,fun _ _ _ => rfl⟩
theorem But.of {R : Nat} {w w' : World} (h : Below w.heap.size w w') : But R w w' := ⟨h.os,h.tape,h.output,h.size,fun k hk _ => h.block k hk⟩
theorem But.only {R : Nat} {a w w' : World} (h : But R a w) (k : Only R w w') : But R a w' :=
 ⟨k.os.trans h.os,k.tape.trans h.tape,k.output.trans h.output,by rw [k.size]; exact h.size,fun i hi hne => (k.block i hne).trans (h.block i hi hne)⟩
theorem But.setCell {R : Nat} {a w : World} (h : But R a w) {p : Addr} (hp : a.heap.size ≤ p.block) (u : Value) : But R a (w.setCell p u) :=
 ⟨h.os,h.tape,h.output,by simp [World.setCell]; exact h.size,fun i hi hne => (heap_setCell_other w p i u (by omega)).trans (h.block i hi hne)⟩
theorem But.cell {R : Nat} {w w' : World} (h : But R w w') {p : Addr} (hp : p.block < w.heap.size) (hne : p.block ≠ R) : w'.cell? p = w.cell? p := World.cell?_of_block (w := w) (h.block p.block hp hne)
theorem But.below {R : Nat} {a w w' : World} (h : Below a.heap.size a w) (k : But R w w') (hR : a.heap.size ≤ R) : Below a.heap.size a w' :=
 h.trans ⟨k.os,k.tape,k.output,k.size,fun i hi => k.block i (Nat.lt_of_lt_of_le hi h.size) (by omega)⟩
theorem Row.same {w w' : World} {B : Nat} {zs : List Nat} (h : Row w B zs) (k : ∀ C,Only C w w') : Row w' B zs := h.only (k (B + 1)) (by omega)
end Go.Proofs.YtfnhimofpelmdaaGreatDoor
