/- Calls of two numbers of which one may not be; what the program's call and the document's own answer alike; the document's Twin. -/
import Derived.Test.YtkpbgjgebjcfeaaRefSums
import Derived.Test.YtkpbgjgebjcfeaaAdd
import Derived.Test.YtkpbgjgebjcfeaaLent
namespace Go.Proofs.Ytkpbgjgebjcfeaa
open Go.RowKit

set_option maxHeartbeats 400000 in
theorem cmpN_any (a a' : Option Addr) (n n' cap cap' m m' : Nat) (w : World) (h : Num w a n m) (h' : Num w a' n' m') :
    Calls Try.prog 46 #[.agg #[.slice a n cap], .agg #[.slice a' n' cap']] w fun e w' => e = .returned (.tuple #[.int .i64 (cmpI m m'), .int .i64 0]) ∧ Below w.heap.size w w' := by
  have HK := hide (fun (o1 o2 : Obj) => checkBoth_num a a' n n' cap cap' m m' ((w.alloc o1).alloc o2) ((h.alloc _).alloc _) ((h'.alloc _).alloc _))
  have H := hide (And.intro h h')
  clear h h'
  go_enter Try.func46, Try.ntmps46
  go_wp2_with fail
  refine (unhide HK _ _).mono ?_
  rintro e w1 ⟨rfl, hb1⟩
  obtain ⟨hc1, hf1⟩ := bcell hb1
  have HB := hide (gr_trans (gr_trans (gr_alloc w (.cells #[.slice a n cap] 24)) (gr_alloc _ (.cells #[.slice a' n' cap'] 24))) hb1)
  clear hb1
  go_wp2_with fail
  refine (compare_any a a' n n' cap cap' m m' w1 ((unhide H).1.kept (unhide HB)) ((unhide H).2.kept (unhide HB))).mono ?_
  rintro e w2 ⟨rfl, hb2⟩
  go_wp2
  go_ret2
  exact ⟨rfl, gr_trans (unhide HB) hb2⟩

set_option maxHeartbeats 400000 in
theorem cmp2_bad (a a' : Option Addr) (n n' cap cap' : Nat) (xs ys : List Nat) (w : World) (hn : xs.length = n) (hn' : ys.length = n') (hbx : n ≤ 9223372036854775807) (hby : n' ≤ 9223372036854775807) (hl : Lim w a xs) (hl' : Lim w a' ys) (hc : chk2 xs ys ≠ 0) :
    Calls Try.prog 46 #[.agg #[.slice a n cap], .agg #[.slice a' n' cap']] w fun e w' => e = .returned (.tuple #[.int .i64 0, .int .i64 (chk2 xs ys)]) ∧ Below w.heap.size w w' := by
  have HK := hide (fun (o1 o2 : Obj) => checkBoth_any a a' cap cap' xs ys ((w.alloc o1).alloc o2) (by omega) (by omega) ((hl.alloc _).alloc _) ((hl'.alloc _).alloc _))
  rw [hn, hn'] at HK
  obtain ⟨c, hcc⟩ : ∃ c, c = chk2 xs ys := ⟨_, rfl⟩
  rw [← hcc] at HK hc ⊢
  have hne : (c != 0) = true := by simp [hc]
  have hne2 : (c == 0) = false := by simp [hc]
  clear hcc hn hn' hl hl' hc hbx hby
  go_enter Try.func46, Try.ntmps46
  go_wp2_with fail
  refine (unhide HK _ _).mono ?_
  rintro e w1 ⟨rfl, hb1⟩
  have HB := hide (gr_trans (gr_trans (gr_alloc w (.cells #[.slice a n cap] 24)) (gr_alloc _ (.cells #[.slice a' n' cap'] 24))) hb1)
  clear hb1 HK
  go_wp2
  go_ret2
  exact ⟨rfl, unhide HB⟩

set_option maxHeartbeats 400000 in
theorem add_bad (a a' : Option Addr) (n n' cap cap' : Nat) (xs ys : List Nat) (w : World) (hn : xs.length = n) (hn' : ys.length = n') (hbx : n ≤ 9223372036854775807) (hby : n' ≤ 9223372036854775807) (hl : Lim w a xs) (hl' : Lim w a' ys) (hc : chk2 xs ys ≠ 0) :
    Calls Try.prog 43 #[.agg #[.slice a n cap], .agg #[.slice a' n' cap']] w fun e w' => e = .returned (.tuple #[.agg #[.slice none 0 0], .int .i64 (chk2 xs ys)]) ∧ Below w.heap.size w w' := by
  have HK := hide (fun (o1 o2 o3 : Obj) => checkBoth_any a a' cap cap' xs ys (((w.alloc o1).alloc o2).alloc o3) (by omega) (by omega) (((hl.alloc _).alloc _).alloc _) (((hl'.alloc _).alloc _).alloc _))
  rw [hn, hn'] at HK
  obtain ⟨c, hcc⟩ : ∃ c, c = chk2 xs ys := ⟨_, rfl⟩
  rw [← hcc] at HK hc ⊢
  have hne : (c != 0) = true := by simp [hc]
  have hne2 : (c == 0) = false := by simp [hc]
  clear hcc hn hn' hl hl' hc hbx hby
  go_enter Try.func43, Try.ntmps43
  go_wp2_with fail
  refine (unhide HK _ _ _).mono ?_
  rintro e w1 ⟨rfl, hb1⟩
  have HT := hide ((Two.made w a a' n n' cap cap').kept hb1)
  have hcx := (unhide HT).br.cell
  have hfx := (unhide HT).br.frozen
  clear hb1 HK
  go_wp2
  exact bodyPost_ret (v := .tuple #[.agg #[.slice none 0 0], .int .i64 (c)]) (by simp [results, Try.results43, go_sem, hcx]) rfl ⟨rfl, (unhide HT).bel.setCell (Nat.le_add_right _ 2) _⟩

set_option maxHeartbeats 400000 in
theorem mul_bad (a a' : Option Addr) (n n' cap cap' : Nat) (xs ys : List Nat) (w : World) (hn : xs.length = n) (hn' : ys.length = n') (hbx : n ≤ 9223372036854775807) (hby : n' ≤ 9223372036854775807) (hl : Lim w a xs) (hl' : Lim w a' ys) (hc : chk2 xs ys ≠ 0) :
    Calls Try.prog 44 #[.agg #[.slice a n cap], .agg #[.slice a' n' cap']] w fun e w' => e = .returned (.tuple #[.agg #[.slice none 0 0], .int .i64 (chk2 xs ys)]) ∧ Below w.heap.size w w' := by
  have HK := hide (fun (o1 o2 o3 : Obj) => checkBoth_any a a' cap cap' xs ys (((w.alloc o1).alloc o2).alloc o3) (by omega) (by omega) (((hl.alloc _).alloc _).alloc _) (((hl'.alloc _).alloc _).alloc _))
  rw [hn, hn'] at HK
  obtain ⟨c, hcc⟩ : ∃ c, c = chk2 xs ys := ⟨_, rfl⟩
  rw [← hcc] at HK hc ⊢
  have hne : (c != 0) = true := by simp [hc]
  have hne2 : (c == 0) = false := by simp [hc]
  clear hcc hn hn' hl hl' hc hbx hby
  go_enter Try.func44, Try.ntmps44
  go_wp2_with fail
  refine (unhide HK _ _ _).mono ?_
  rintro e w1 ⟨rfl, hb1⟩
  have HT := hide ((Two.made w a a' n n' cap cap').kept hb1)
  have hcx := (unhide HT).br.cell
  have hfx := (unhide HT).br.frozen
  clear hb1 HK
  go_wp2
  exact bodyPost_ret (v := .tuple #[.agg #[.slice none 0 0], .int .i64 (c)]) (by simp [results, Try.results44, go_sem, hcx]) rfl ⟨rfl, (unhide HT).bel.setCell (Nat.le_add_right _ 2) _⟩

set_option maxHeartbeats 400000 in
theorem sub_bad (a a' : Option Addr) (n n' cap cap' : Nat) (xs ys : List Nat) (w : World) (hn : xs.length = n) (hn' : ys.length = n') (hbx : n ≤ 9223372036854775807) (hby : n' ≤ 9223372036854775807) (hl : Lim w a xs) (hl' : Lim w a' ys) (hc : chk2 xs ys ≠ 0) :
    Calls Try.prog 45 #[.agg #[.slice a n cap], .agg #[.slice a' n' cap']] w fun e w' => e = .returned (.tuple #[.agg #[.slice none 0 0], .bool false, .int .i64 (chk2 xs ys)]) ∧ Below w.heap.size w w' := by
  have HK := hide (fun (o1 o2 o3 : Obj) => checkBoth_any a a' cap cap' xs ys (((w.alloc o1).alloc o2).alloc o3) (by omega) (by omega) (((hl.alloc _).alloc _).alloc _) (((hl'.alloc _).alloc _).alloc _))
  rw [hn, hn'] at HK
  obtain ⟨c, hcc⟩ : ∃ c, c = chk2 xs ys := ⟨_, rfl⟩
  rw [← hcc] at HK hc ⊢
  have hne : (c != 0) = true := by simp [hc]
  have hne2 : (c == 0) = false := by simp [hc]
  clear hcc hn hn' hl hl' hc hbx hby
  go_enter Try.func45, Try.ntmps45
  go_wp2_with fail
  refine (unhide HK _ _ _).mono ?_
  rintro e w1 ⟨rfl, hb1⟩
  have HT := hide ((Two.made w a a' n n' cap cap').kept hb1)
  have hcx := (unhide HT).br.cell
  have hfx := (unhide HT).br.frozen
  clear hb1 HK
  go_wp2
  exact bodyPost_ret (v := .tuple #[.agg #[.slice none 0 0], .bool false, .int .i64 (c)]) (by simp [results, Try.results45, go_sem, hcx]) rfl ⟨rfl, (unhide HT).bel.setCell (Nat.le_add_right _ 2) _⟩

set_option maxHeartbeats 400000 in
theorem rcmp2_bad (a a' : Option Addr) (n n' cap cap' : Nat) (xs ys : List Nat) (w : World) (hn : xs.length = n) (hn' : ys.length = n') (hbx : n ≤ 9223372036854775807) (hby : n' ≤ 9223372036854775807) (hl : Lim w a xs) (hl' : Lim w a' ys) (hc : chk2 xs ys ≠ 0) :
    Calls Try.prog 56 #[.agg #[.slice a n cap], .agg #[.slice a' n' cap']] w fun e w' => e = .returned (.tuple #[.int .i64 0, .int .i64 (chk2 xs ys)]) ∧ Below w.heap.size w w' := by
  have HK := hide (fun (o1 o2 : Obj) => rtwo_any a a' cap cap' xs ys ((w.alloc o1).alloc o2) (by omega) (by omega) ((hl.alloc _).alloc _) ((hl'.alloc _).alloc _))
  rw [hn, hn'] at HK
  obtain ⟨c, hcc⟩ : ∃ c, c = chk2 xs ys := ⟨_, rfl⟩
  rw [← hcc] at HK hc ⊢
  have hne : (c != 0) = true := by simp [hc]
  have hne2 : (c == 0) = false := by simp [hc]
  clear hcc hn hn' hl hl' hc hbx hby
  go_enter Try.func56, Try.ntmps56
  go_wp2_with fail
  refine (unhide HK _ _).mono ?_
  rintro e w1 ⟨rfl, hb1⟩
  have HB := hide (gr_trans (gr_trans (gr_alloc w (.cells #[.slice a n cap] 24)) (gr_alloc _ (.cells #[.slice a' n' cap'] 24))) hb1)
  clear hb1 HK
  go_wp2
  go_ret2
  exact ⟨rfl, unhide HB⟩

set_option maxHeartbeats 400000 in
theorem radd_bad (a a' : Option Addr) (n n' cap cap' : Nat) (xs ys : List Nat) (w : World) (hn : xs.length = n) (hn' : ys.length = n') (hbx : n ≤ 9223372036854775807) (hby : n' ≤ 9223372036854775807) (hl : Lim w a xs) (hl' : Lim w a' ys) (hc : chk2 xs ys ≠ 0) :
    Calls Try.prog 57 #[.agg #[.slice a n cap], .agg #[.slice a' n' cap']] w fun e w' => e = .returned (.tuple #[.agg #[.slice none 0 0], .int .i64 (chk2 xs ys)]) ∧ Below w.heap.size w w' := by
  have HK := hide (fun (o1 o2 o3 : Obj) => rtwo_any a a' cap cap' xs ys (((w.alloc o1).alloc o2).alloc o3) (by omega) (by omega) (((hl.alloc _).alloc _).alloc _) (((hl'.alloc _).alloc _).alloc _))
  rw [hn, hn'] at HK
  obtain ⟨c, hcc⟩ : ∃ c, c = chk2 xs ys := ⟨_, rfl⟩
  rw [← hcc] at HK hc ⊢
  have hne : (c != 0) = true := by simp [hc]
  have hne2 : (c == 0) = false := by simp [hc]
  clear hcc hn hn' hl hl' hc hbx hby
  go_enter Try.func57, Try.ntmps57
  go_wp2_with fail
  refine (unhide HK _ _ _).mono ?_
  rintro e w1 ⟨rfl, hb1⟩
  have HT := hide ((Two.made w a a' n n' cap cap').kept hb1)
  have hcx := (unhide HT).br.cell
  have hfx := (unhide HT).br.frozen
  clear hb1 HK
  go_wp2
  exact bodyPost_ret (v := .tuple #[.agg #[.slice none 0 0], .int .i64 (c)]) (by simp [results, Try.results57, go_sem, hcx]) rfl ⟨rfl, (unhide HT).bel.setCell (Nat.le_add_right _ 2) _⟩

set_option maxHeartbeats 400000 in
theorem rmul_bad (a a' : Option Addr) (n n' cap cap' : Nat) (xs ys : List Nat) (w : World) (hn : xs.length = n) (hn' : ys.length = n') (hbx : n ≤ 9223372036854775807) (hby : n' ≤ 9223372036854775807) (hl : Lim w a xs) (hl' : Lim w a' ys) (hc : chk2 xs ys ≠ 0) :
    Calls Try.prog 58 #[.agg #[.slice a n cap], .agg #[.slice a' n' cap']] w fun e w' => e = .returned (.tuple #[.agg #[.slice none 0 0], .int .i64 (chk2 xs ys)]) ∧ Below w.heap.size w w' := by
  have HK := hide (fun (o1 o2 o3 : Obj) => rtwo_any a a' cap cap' xs ys (((w.alloc o1).alloc o2).alloc o3) (by omega) (by omega) (((hl.alloc _).alloc _).alloc _) (((hl'.alloc _).alloc _).alloc _))
  rw [hn, hn'] at HK
  obtain ⟨c, hcc⟩ : ∃ c, c = chk2 xs ys := ⟨_, rfl⟩
  rw [← hcc] at HK hc ⊢
  have hne : (c != 0) = true := by simp [hc]
  have hne2 : (c == 0) = false := by simp [hc]
  clear hcc hn hn' hl hl' hc hbx hby
  go_enter Try.func58, Try.ntmps58
  go_wp2_with fail
  refine (unhide HK _ _ _).mono ?_
  rintro e w1 ⟨rfl, hb1⟩
  have HT := hide ((Two.made w a a' n n' cap cap').kept hb1)
  have hcx := (unhide HT).br.cell
  have hfx := (unhide HT).br.frozen
  clear hb1 HK
  go_wp2
  exact bodyPost_ret (v := .tuple #[.agg #[.slice none 0 0], .int .i64 (c)]) (by simp [results, Try.results58, go_sem, hcx]) rfl ⟨rfl, (unhide HT).bel.setCell (Nat.le_add_right _ 2) _⟩

set_option maxHeartbeats 400000 in
theorem rsub_bad (a a' : Option Addr) (n n' cap cap' : Nat) (xs ys : List Nat) (w : World) (hn : xs.length = n) (hn' : ys.length = n') (hbx : n ≤ 9223372036854775807) (hby : n' ≤ 9223372036854775807) (hl : Lim w a xs) (hl' : Lim w a' ys) (hc : chk2 xs ys ≠ 0) :
    Calls Try.prog 59 #[.agg #[.slice a n cap], .agg #[.slice a' n' cap']] w fun e w' => e = .returned (.tuple #[.agg #[.slice none 0 0], .bool false, .int .i64 (chk2 xs ys)]) ∧ Below w.heap.size w w' := by
  have HK := hide (fun (o1 o2 o3 : Obj) => rtwo_any a a' cap cap' xs ys (((w.alloc o1).alloc o2).alloc o3) (by omega) (by omega) (((hl.alloc _).alloc _).alloc _) (((hl'.alloc _).alloc _).alloc _))
  rw [hn, hn'] at HK
  obtain ⟨c, hcc⟩ : ∃ c, c = chk2 xs ys := ⟨_, rfl⟩
  rw [← hcc] at HK hc ⊢
  have hne : (c != 0) = true := by simp [hc]
  have hne2 : (c == 0) = false := by simp [hc]
  clear hcc hn hn' hl hl' hc hbx hby
  go_enter Try.func59, Try.ntmps59
  go_wp2_with fail
  refine (unhide HK _ _ _).mono ?_
  rintro e w1 ⟨rfl, hb1⟩
  have HT := hide ((Two.made w a a' n n' cap cap').kept hb1)
  have hcx := (unhide HT).br.cell
  have hfx := (unhide HT).br.frozen
  clear hb1 HK
  go_wp2
  exact bodyPost_ret (v := .tuple #[.agg #[.slice none 0 0], .bool false, .int .i64 (c)]) (by simp [results, Try.results59, go_sem, hcx]) rfl ⟨rfl, (unhide HT).bel.setCell (Nat.le_add_right _ 2) _⟩

theorem chk2_zero {xs ys : List Nat} (h : chk2 xs ys = 0) : xs.length ≤ 16384 ∧ Pl.Norm xs ∧ ys.length ≤ 16384 ∧ Pl.Norm ys := by
  unfold chk2 at h
  split at h
  · rename_i h0
    obtain ⟨h1, h2⟩ := chk_zero h0
    obtain ⟨h3, h4⟩ := chk_zero h
    exact ⟨h1, h2, h3, h4⟩
  · contradiction
/-- What Sub answers, by one number, one word and one code. -/
def SPAns (w : World) (base : Nat) (e : Ending) (m : Nat) (ok : Bool) (code : Int) : Prop :=
  ∃ a n cap, e = .returned (.tuple #[.agg #[.slice a n cap], .bool ok, .int .i64 code]) ∧ Mine w base a n cap m
theorem cmp_both (xs ys : List Nat) (n n' : Nat) (hn : xs.length = n) (hn' : ys.length = n') (hw : Pl.Wf xs) (hw' : Pl.Wf ys) (hb : n ≤ 9223372036854775807) (hb' : n' ≤ 9223372036854775807) : ∃ (r code : Int),
    (∀ (W : World) (a a' : Option Addr) (ca ca' : Nat), Lim W a xs → Lim W a' ys → Calls Try.prog 46 #[.agg #[.slice a n ca], .agg #[.slice a' n' ca']] W fun e w' => e = .returned (.tuple #[.int .i64 r, .int .i64 code]) ∧ Below W.heap.size W w') ∧
    (∀ (W : World) (a a' : Option Addr) (ca ca' : Nat), Lim W a xs → Lim W a' ys → Calls Try.prog 56 #[.agg #[.slice a n ca], .agg #[.slice a' n' ca']] W fun e w' => e = .returned (.tuple #[.int .i64 r, .int .i64 code]) ∧ Below W.heap.size W w') := by
  by_cases hc : chk2 xs ys = 0
  · obtain ⟨h1, h2, h3, h4⟩ := chk2_zero hc
    have hnum : ∀ (W : World) (a : Option Addr), Lim W a xs → Num W a n (Pl.val xs) := fun W a hl => ⟨xs, hn, hl, hw, h2, rfl, by omega⟩
    have hnum' : ∀ (W : World) (a : Option Addr), Lim W a ys → Num W a n' (Pl.val ys) := fun W a hl => ⟨ys, hn', hl, hw', h4, rfl, by omega⟩
    exact ⟨cmpI (Pl.val xs) (Pl.val ys), 0, fun W a a' ca ca' hl hl' => cmpN_any a a' n n' ca ca' _ _ W (hnum W a hl) (hnum' W a' hl'), fun W a a' ca ca' hl hl' => rcmpApi_any a a' n n' ca ca' _ _ W (hnum W a hl) (hnum' W a' hl')⟩
  · exact ⟨0, chk2 xs ys, fun W a a' ca ca' hl hl' => cmp2_bad a a' n n' ca ca' xs ys W hn hn' hb hb' hl hl' hc, fun W a a' ca ca' hl hl' => rcmp2_bad a a' n n' ca ca' xs ys W hn hn' hb hb' hl hl' hc⟩

theorem add_both (xs ys : List Nat) (n n' : Nat) (hn : xs.length = n) (hn' : ys.length = n') (hw : Pl.Wf xs) (hw' : Pl.Wf ys) (hb : n ≤ 9223372036854775807) (hb' : n' ≤ 9223372036854775807) : ∃ (m : Nat) (code : Int),
    (∀ (W : World) (a a' : Option Addr) (ca ca' : Nat), Lim W a xs → Lim W a' ys → Calls Try.prog 43 #[.agg #[.slice a n ca], .agg #[.slice a' n' ca']] W fun e w' => PAns w' W.heap.size e m code ∧ Below W.heap.size W w') ∧
    (∀ (W : World) (a a' : Option Addr) (ca ca' : Nat), Lim W a xs → Lim W a' ys → Calls Try.prog 57 #[.agg #[.slice a n ca], .agg #[.slice a' n' ca']] W fun e w' => PAns w' W.heap.size e m code ∧ Below W.heap.size W w') := by
  by_cases hc : chk2 xs ys = 0
  · obtain ⟨h1, h2, h3, h4⟩ := chk2_zero hc
    have hnum : ∀ (W : World) (a : Option Addr), Lim W a xs → Num W a n (Pl.val xs) := fun W a hl => ⟨xs, hn, hl, hw, h2, rfl, by omega⟩
    have hnum' : ∀ (W : World) (a : Option Addr), Lim W a ys → Num W a n' (Pl.val ys) := fun W a hl => ⟨ys, hn', hl, hw', h4, rfl, by omega⟩
    obtain ⟨m, code, hA⟩ := ans_both (Pl.val xs + Pl.val ys)
    exact ⟨m, code, fun W a a' ca ca' hl hl' => (add_any a a' n n' ca ca' _ _ W (hnum W a hl) (hnum' W a' hl')).mono (fun e w' ⟨k1, k2⟩ => ⟨hA _ _ _ k1, k2⟩), fun W a a' ca ca' hl hl' => (radd_any a a' n n' ca ca' _ _ W (hnum W a hl) (hnum' W a' hl')).mono (fun e w' ⟨k1, k2⟩ => ⟨hA _ _ _ k1, k2⟩)⟩
  · exact ⟨0, chk2 xs ys, fun W a a' ca ca' hl hl' => (add_bad a a' n n' ca ca' xs ys W hn hn' hb hb' hl hl' hc).mono (fun e w' ⟨k1, k2⟩ => ⟨⟨none, 0, 0, k1, Mine.nil _ _⟩, k2⟩), fun W a a' ca ca' hl hl' => (radd_bad a a' n n' ca ca' xs ys W hn hn' hb hb' hl hl' hc).mono (fun e w' ⟨k1, k2⟩ => ⟨⟨none, 0, 0, k1, Mine.nil _ _⟩, k2⟩)⟩

theorem mul_both (xs ys : List Nat) (n n' : Nat) (hn : xs.length = n) (hn' : ys.length = n') (hw : Pl.Wf xs) (hw' : Pl.Wf ys) (hb : n ≤ 9223372036854775807) (hb' : n' ≤ 9223372036854775807) : ∃ (m : Nat) (code : Int),
    (∀ (W : World) (a a' : Option Addr) (ca ca' : Nat), Lim W a xs → Lim W a' ys → Calls Try.prog 44 #[.agg #[.slice a n ca], .agg #[.slice a' n' ca']] W fun e w' => PAns w' W.heap.size e m code ∧ Below W.heap.size W w') ∧
    (∀ (W : World) (a a' : Option Addr) (ca ca' : Nat), Lim W a xs → Lim W a' ys → Calls Try.prog 58 #[.agg #[.slice a n ca], .agg #[.slice a' n' ca']] W fun e w' => PAns w' W.heap.size e m code ∧ Below W.heap.size W w') := by
  by_cases hc : chk2 xs ys = 0
  · obtain ⟨h1, h2, h3, h4⟩ := chk2_zero hc
    have hnum : ∀ (W : World) (a : Option Addr), Lim W a xs → Num W a n (Pl.val xs) := fun W a hl => ⟨xs, hn, hl, hw, h2, rfl, by omega⟩
    have hnum' : ∀ (W : World) (a : Option Addr), Lim W a ys → Num W a n' (Pl.val ys) := fun W a hl => ⟨ys, hn', hl, hw', h4, rfl, by omega⟩
    obtain ⟨m, code, hA⟩ := ans_both (Pl.val xs * Pl.val ys)
    exact ⟨m, code, fun W a a' ca ca' hl hl' => (mul_any a a' n n' ca ca' _ _ W (hnum W a hl) (hnum' W a' hl')).mono (fun e w' ⟨k1, k2⟩ => ⟨hA _ _ _ k1, k2⟩), fun W a a' ca ca' hl hl' => (rmul_any a a' n n' ca ca' _ _ W (hnum W a hl) (hnum' W a' hl')).mono (fun e w' ⟨k1, k2⟩ => ⟨hA _ _ _ k1, k2⟩)⟩
  · exact ⟨0, chk2 xs ys, fun W a a' ca ca' hl hl' => (mul_bad a a' n n' ca ca' xs ys W hn hn' hb hb' hl hl' hc).mono (fun e w' ⟨k1, k2⟩ => ⟨⟨none, 0, 0, k1, Mine.nil _ _⟩, k2⟩), fun W a a' ca ca' hl hl' => (rmul_bad a a' n n' ca ca' xs ys W hn hn' hb hb' hl hl' hc).mono (fun e w' ⟨k1, k2⟩ => ⟨⟨none, 0, 0, k1, Mine.nil _ _⟩, k2⟩)⟩

theorem sub_one (X Y : Nat) : ∃ (m : Nat) (ok : Bool) (code : Int), ∀ (w : World) (base : Nat) (e : Ending), SubAns w base e X Y → SPAns w base e m ok code := by
  by_cases h : X < Y
  · refine ⟨0, false, 0, fun w base e hA => ?_⟩
    rcases hA with ⟨_, rfl⟩ | ⟨h2, _⟩
    · exact ⟨none, 0, 0, rfl, Mine.nil _ _⟩
    · omega
  · refine ⟨X - Y, true, 0, fun w base e hA => ?_⟩
    rcases hA with ⟨h2, _⟩ | ⟨_, hA⟩
    · omega
    · exact hA
theorem sub_both (xs ys : List Nat) (n n' : Nat) (hn : xs.length = n) (hn' : ys.length = n') (hw : Pl.Wf xs) (hw' : Pl.Wf ys) (hb : n ≤ 9223372036854775807) (hb' : n' ≤ 9223372036854775807) : ∃ (m : Nat) (ok : Bool) (code : Int),
    (∀ (W : World) (a a' : Option Addr) (ca ca' : Nat), Lim W a xs → Lim W a' ys → Calls Try.prog 45 #[.agg #[.slice a n ca], .agg #[.slice a' n' ca']] W fun e w' => SPAns w' W.heap.size e m ok code ∧ Below W.heap.size W w') ∧
    (∀ (W : World) (a a' : Option Addr) (ca ca' : Nat), Lim W a xs → Lim W a' ys → Calls Try.prog 59 #[.agg #[.slice a n ca], .agg #[.slice a' n' ca']] W fun e w' => SPAns w' W.heap.size e m ok code ∧ Below W.heap.size W w') := by
  by_cases hc : chk2 xs ys = 0
  · obtain ⟨h1, h2, h3, h4⟩ := chk2_zero hc
    have hnum : ∀ (W : World) (a : Option Addr), Lim W a xs → Num W a n (Pl.val xs) := fun W a hl => ⟨xs, hn, hl, hw, h2, rfl, by omega⟩
    have hnum' : ∀ (W : World) (a : Option Addr), Lim W a ys → Num W a n' (Pl.val ys) := fun W a hl => ⟨ys, hn', hl, hw', h4, rfl, by omega⟩
    obtain ⟨m, ok, code, hA⟩ := sub_one (Pl.val xs) (Pl.val ys)
    exact ⟨m, ok, code, fun W a a' ca ca' hl hl' => (sub_any a a' n n' ca ca' _ _ W (hnum W a hl) (hnum' W a' hl')).mono (fun e w' ⟨k1, k2⟩ => ⟨hA _ _ _ k1, k2⟩), fun W a a' ca ca' hl hl' => (rsub_any a a' n n' ca ca' _ _ W (hnum W a hl) (hnum' W a' hl')).mono (fun e w' ⟨k1, k2⟩ => ⟨hA _ _ _ k1, k2⟩)⟩
  · exact ⟨0, false, chk2 xs ys, fun W a a' ca ca' hl hl' => (sub_bad a a' n n' ca ca' xs ys W hn hn' hb hb' hl hl' hc).mono (fun e w' ⟨k1, k2⟩ => ⟨⟨none, 0, 0, k1, Mine.nil _ _⟩, k2⟩), fun W a a' ca ca' hl hl' => (rsub_bad a a' n n' ca ca' xs ys W hn hn' hb hb' hl hl' hc).mono (fun e w' ⟨k1, k2⟩ => ⟨⟨none, 0, 0, k1, Mine.nil _ _⟩, k2⟩)⟩

set_option maxHeartbeats 800000 in
/-- Twin: the same limbs in a row of their own. -/
theorem rtwin_any (a : Option Addr) (n cap : Nat) (xs : List Nat) (w : World) (hn : xs.length = n) (hl : Lim w a xs) (hb : n ≤ 35184372087808) :
    Calls Try.prog 25 #[.agg #[.slice a n cap]] w fun e w' => (∃ b c, e = .returned (.agg #[.slice b n c]) ∧ Own w' w.heap.size (.slice b n c) xs) ∧ Below w.heap.size w w' := by
  obtain ⟨W0, hW0⟩ : ∃ W0, (w.alloc (.cells #[.slice a n cap] 24)).alloc (.cells #[.slice none 0 0] 24) = W0 := ⟨_, rfl⟩
  have hb0 : Below w.heap.size w W0 := by rw [← hW0]; exact gr_trans (gr_alloc _ _) (gr_alloc _ _)
  have hx0 : Box W0 w.heap.size (.slice a n cap) := by rw [← hW0]; exact (Box.made w _).alloc _
  have hy0 : Box W0 (w.heap.size + 1) (.slice none 0 0) := by
    rw [← hW0]
    have := Box.made (w.alloc (.cells #[.slice a n cap] 24)) (.slice none 0 0)
    simpa using this
  obtain ⟨v1, W1, hr1, ho1, hb1⟩ := append_lim W0 a n cap xs hn (hl.below hb0) (by omega)
  have hO : ∃ b c, v1 = .slice b n c ∧ Own W1 w.heap.size v1 xs := by
    by_cases h0 : n = 0
    · subst h0
      have hx : xs = [] := List.length_eq_zero_iff.1 hn
      obtain ⟨_, ⟨h1, h2⟩ | ⟨g, c, cur, hv, hg, hh, h1, h2, h3, h4⟩⟩ := ho1
      · exact ⟨none, 0, h1, Or.inl ⟨h1, hx⟩⟩
      · refine ⟨_, _, hv, Or.inr ⟨g, c, cur, by rw [hx]; exact hv, by have := hb0.size; omega, hh, by rw [hx]; simp, by omega, by unfold maxLen at h2; exact h2, fun j hj => by rw [hx] at hj; simp at hj⟩⟩
    · obtain ⟨hO, _⟩ := own_of_row ho1 hn (by omega) hb0.size
      obtain ⟨g, c, hv⟩ := own_form ho1 (by omega)
      exact ⟨_, _, hv, hO⟩
  obtain ⟨b, c, rfl, hO⟩ := hO
  have HO := hide (hO.kept (gr_alloc W1 (.cells #[.slice b n c] 24)))
  have HY := hide ((hy0.kept hb1).alloc (.cells #[.slice b n c] 24))
  have HB := hide (gr_trans (gr_trans hb0 hb1) (gr_alloc W1 (.cells #[.slice b n c] 24)))
  have hcx := hx0.cell
  clear hO hb0 hx0 hy0 ho1 hb1 hl hn
  subst hW0
  go_enter Try.func25, Try.ntmps25
  go_wp2_with (at_builtin; refine wpList_append_run rfl (.tmp 4) (.tmp 6) 22 rfl hr1 ?_)
  refine (rnat_any _ b n c _ rfl).mono ?_
  rintro e w3 ⟨rfl, rfl⟩
  have hcy := (unhide HY).cell
  have hfy := (unhide HY).frozen
  go_wp2
  exact bodyPost_ret (v := .agg #[.slice b n c]) (by simp [results, Try.results25, go_sem, hcy]) rfl ⟨⟨b, c, rfl, (unhide HO).setBox (unhide HY) _⟩, (unhide HB).setCell (Nat.le_add_right _ 1) _⟩

end Go.Proofs.Ytkpbgjgebjcfeaa
