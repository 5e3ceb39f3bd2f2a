/- Calls of one number that may not be, or of an exponent below nought: what they answer, in the program and in the document's own. -/
import Derived.Test.YtkpbgjgebjcfeaaRefBits
namespace Go.Proofs.Ytkpbgjgebjcfeaa
open Go.RowKit

set_option maxHeartbeats 400000 in
theorem up_bad (a : Option Addr) (n cap : Nat) (k : Int) (xs : List Nat) (w : World) (hn : xs.length = n) (hl : Lim w a xs) (hb : n ≤ 9223372036854775807) (hc : chk xs ≠ 0) :
    Calls Try.prog 14 #[.agg #[.slice a n cap], .int .i64 k] w fun e w' => e = .returned (.tuple #[.agg #[.slice none 0 0], .int .i64 (chk xs)]) ∧ Below w.heap.size w w' := by
  have HK := hide (fun (W : World) (h : Lim W a xs) => check_any a cap xs W (by omega) h)
  rw [hn] at HK
  obtain ⟨c, hcc⟩ : ∃ c, c = chk xs := ⟨_, rfl⟩
  rw [← hcc] at HK hc ⊢
  have hne : (c != 0) = true := by simp [hc]
  have hne2 : (c == 0) = false := by simp [hc]
  clear hcc hn hc
  go_enter Try.func14, Try.ntmps14
  go_wp2_with fail
  refine (unhide HK _ ((hl.alloc _).alloc _)).mono ?_
  rintro e w1 ⟨rfl, hb1⟩
  have hbx := ((Box.made w (.slice a n cap)).alloc (.cells #[.slice none 0 0] 24)).kept hb1
  have hby := (Box.made (w.alloc (.cells #[.slice a n cap] 24)) (.slice none 0 0)).kept hb1
  simp only [World.size_alloc] at hby
  have hcx := hbx.cell
  have hcy := hby.cell
  have hfy := hby.frozen
  have HB := hide (gr_trans (gr_trans (gr_alloc w (.cells #[.slice a n cap] 24)) (gr_alloc _ (.cells #[.slice none 0 0] 24))) hb1)
  clear hb1 HK
  go_wp2
  exact bodyPost_ret (v := .tuple #[.agg #[.slice none 0 0], .int .i64 (c)]) (by simp [results, Try.results14, go_sem, hcy]) rfl ⟨rfl, (unhide HB).setCell (by simp) _⟩

set_option maxHeartbeats 400000 in
theorem up_neg (a : Option Addr) (n cap : Nat) (k : Int) (xs : List Nat) (w : World) (hn : xs.length = n) (hl : Lim w a xs) (hb : n ≤ 9223372036854775807) (h0 : chk xs = 0) (hk : k < 0) :
    Calls Try.prog 14 #[.agg #[.slice a n cap], .int .i64 k] w fun e w' => e = .returned (.tuple #[.agg #[.slice none 0 0], .int .i64 2]) ∧ Below w.heap.size w w' := by
  have HK := hide (fun (W : World) (h : Lim W a xs) => check_any a cap xs W (by omega) h)
  rw [hn] at HK
  rw [h0] at HK
  clear h0 hn
  go_enter Try.func14, Try.ntmps14
  go_wp2_with fail
  refine (unhide HK _ ((hl.alloc _).alloc _)).mono ?_
  rintro e w1 ⟨rfl, hb1⟩
  have hbx := ((Box.made w (.slice a n cap)).alloc (.cells #[.slice none 0 0] 24)).kept hb1
  have hby := (Box.made (w.alloc (.cells #[.slice a n cap] 24)) (.slice none 0 0)).kept hb1
  simp only [World.size_alloc] at hby
  have hcx := hbx.cell
  have hcy := hby.cell
  have hfy := hby.frozen
  have HB := hide (gr_trans (gr_trans (gr_alloc w (.cells #[.slice a n cap] 24)) (gr_alloc _ (.cells #[.slice none 0 0] 24))) hb1)
  clear hb1 HK
  go_wp2
  exact bodyPost_ret (v := .tuple #[.agg #[.slice none 0 0], .int .i64 2]) (by simp [results, Try.results14, go_sem, hcy]) rfl ⟨rfl, (unhide HB).setCell (by simp) _⟩

set_option maxHeartbeats 400000 in
theorem down_bad (a : Option Addr) (n cap : Nat) (k : Int) (xs : List Nat) (w : World) (hn : xs.length = n) (hl : Lim w a xs) (hb : n ≤ 9223372036854775807) (hc : chk xs ≠ 0) :
    Calls Try.prog 29 #[.agg #[.slice a n cap], .int .i64 k] w fun e w' => e = .returned (.tuple #[.agg #[.slice none 0 0], .int .i64 (chk xs)]) ∧ Below w.heap.size w w' := by
  have HK := hide (fun (W : World) (h : Lim W a xs) => check_any a cap xs W (by omega) h)
  rw [hn] at HK
  obtain ⟨c, hcc⟩ : ∃ c, c = chk xs := ⟨_, rfl⟩
  rw [← hcc] at HK hc ⊢
  have hne : (c != 0) = true := by simp [hc]
  have hne2 : (c == 0) = false := by simp [hc]
  clear hcc hn hc
  go_enter Try.func29, Try.ntmps29
  go_wp2_with fail
  refine (unhide HK _ ((hl.alloc _).alloc _)).mono ?_
  rintro e w1 ⟨rfl, hb1⟩
  have hbx := ((Box.made w (.slice a n cap)).alloc (.cells #[.slice none 0 0] 24)).kept hb1
  have hby := (Box.made (w.alloc (.cells #[.slice a n cap] 24)) (.slice none 0 0)).kept hb1
  simp only [World.size_alloc] at hby
  have hcx := hbx.cell
  have hcy := hby.cell
  have hfy := hby.frozen
  have HB := hide (gr_trans (gr_trans (gr_alloc w (.cells #[.slice a n cap] 24)) (gr_alloc _ (.cells #[.slice none 0 0] 24))) hb1)
  clear hb1 HK
  go_wp2
  exact bodyPost_ret (v := .tuple #[.agg #[.slice none 0 0], .int .i64 (c)]) (by simp [results, Try.results29, go_sem, hcy]) rfl ⟨rfl, (unhide HB).setCell (by simp) _⟩

set_option maxHeartbeats 400000 in
theorem down_neg (a : Option Addr) (n cap : Nat) (k : Int) (xs : List Nat) (w : World) (hn : xs.length = n) (hl : Lim w a xs) (hb : n ≤ 9223372036854775807) (h0 : chk xs = 0) (hk : k < 0) :
    Calls Try.prog 29 #[.agg #[.slice a n cap], .int .i64 k] w fun e w' => e = .returned (.tuple #[.agg #[.slice none 0 0], .int .i64 2]) ∧ Below w.heap.size w w' := by
  have HK := hide (fun (W : World) (h : Lim W a xs) => check_any a cap xs W (by omega) h)
  rw [hn] at HK
  rw [h0] at HK
  clear h0 hn
  go_enter Try.func29, Try.ntmps29
  go_wp2_with fail
  refine (unhide HK _ ((hl.alloc _).alloc _)).mono ?_
  rintro e w1 ⟨rfl, hb1⟩
  have hbx := ((Box.made w (.slice a n cap)).alloc (.cells #[.slice none 0 0] 24)).kept hb1
  have hby := (Box.made (w.alloc (.cells #[.slice a n cap] 24)) (.slice none 0 0)).kept hb1
  simp only [World.size_alloc] at hby
  have hcx := hbx.cell
  have hcy := hby.cell
  have hfy := hby.frozen
  have HB := hide (gr_trans (gr_trans (gr_alloc w (.cells #[.slice a n cap] 24)) (gr_alloc _ (.cells #[.slice none 0 0] 24))) hb1)
  clear hb1 HK
  go_wp2
  exact bodyPost_ret (v := .tuple #[.agg #[.slice none 0 0], .int .i64 2]) (by simp [results, Try.results29, go_sem, hcy]) rfl ⟨rfl, (unhide HB).setCell (by simp) _⟩

set_option maxHeartbeats 400000 in
theorem bits_bad (a : Option Addr) (n cap : Nat) (xs : List Nat) (w : World) (hn : xs.length = n) (hl : Lim w a xs) (hb : n ≤ 9223372036854775807) (hc : chk xs ≠ 0) :
    Calls Try.prog 15 #[.agg #[.slice a n cap]] w fun e w' => e = .returned (.tuple #[.int .i64 0, .int .i64 (chk xs)]) ∧ Below w.heap.size w w' := by
  have HK := hide (fun (W : World) (h : Lim W a xs) => check_any a cap xs W (by omega) h)
  rw [hn] at HK
  obtain ⟨c, hcc⟩ : ∃ c, c = chk xs := ⟨_, rfl⟩
  rw [← hcc] at HK hc ⊢
  have hne : (c != 0) = true := by simp [hc]
  have hne2 : (c == 0) = false := by simp [hc]
  clear hcc hn hc
  go_enter Try.func15, Try.ntmps15
  go_wp2_with fail
  refine (unhide HK _ (hl.alloc _)).mono ?_
  rintro e w1 ⟨rfl, hb1⟩
  have hbx := (Box.made w (.slice a n cap)).kept hb1
  have hcx := hbx.cell
  have HB := hide (gr_trans (gr_alloc w (.cells #[.slice a n cap] 24)) hb1)
  clear hb1 HK
  go_wp2
  go_ret2
  exact ⟨rfl, unhide HB⟩

set_option maxHeartbeats 400000 in
theorem bit_bad (a : Option Addr) (n cap : Nat) (k : Int) (xs : List Nat) (w : World) (hn : xs.length = n) (hl : Lim w a xs) (hb : n ≤ 9223372036854775807) (hc : chk xs ≠ 0) :
    Calls Try.prog 32 #[.agg #[.slice a n cap], .int .i64 k] w fun e w' => e = .returned (.tuple #[.bool false, .int .i64 (chk xs)]) ∧ Below w.heap.size w w' := by
  have HK := hide (fun (W : World) (h : Lim W a xs) => check_any a cap xs W (by omega) h)
  rw [hn] at HK
  obtain ⟨c, hcc⟩ : ∃ c, c = chk xs := ⟨_, rfl⟩
  rw [← hcc] at HK hc ⊢
  have hne : (c != 0) = true := by simp [hc]
  have hne2 : (c == 0) = false := by simp [hc]
  clear hcc hn hc
  go_enter Try.func32, Try.ntmps32
  go_wp2_with fail
  refine (unhide HK _ (hl.alloc _)).mono ?_
  rintro e w1 ⟨rfl, hb1⟩
  have hbx := (Box.made w (.slice a n cap)).kept hb1
  have hcx := hbx.cell
  have HB := hide (gr_trans (gr_alloc w (.cells #[.slice a n cap] 24)) hb1)
  clear hb1 HK
  go_wp2
  go_ret2
  exact ⟨rfl, unhide HB⟩

set_option maxHeartbeats 400000 in
theorem bit_neg (a : Option Addr) (n cap : Nat) (k : Int) (xs : List Nat) (w : World) (hn : xs.length = n) (hl : Lim w a xs) (hb : n ≤ 9223372036854775807) (h0 : chk xs = 0) (hk : k < 0) :
    Calls Try.prog 32 #[.agg #[.slice a n cap], .int .i64 k] w fun e w' => e = .returned (.tuple #[.bool false, .int .i64 2]) ∧ Below w.heap.size w w' := by
  have HK := hide (fun (W : World) (h : Lim W a xs) => check_any a cap xs W (by omega) h)
  rw [hn] at HK
  rw [h0] at HK
  clear h0 hn
  go_enter Try.func32, Try.ntmps32
  go_wp2_with fail
  refine (unhide HK _ (hl.alloc _)).mono ?_
  rintro e w1 ⟨rfl, hb1⟩
  have hbx := (Box.made w (.slice a n cap)).kept hb1
  have hcx := hbx.cell
  have HB := hide (gr_trans (gr_alloc w (.cells #[.slice a n cap] 24)) hb1)
  clear hb1 HK
  go_wp2
  go_ret2
  exact ⟨rfl, unhide HB⟩

set_option maxHeartbeats 400000 in
theorem low_bad (a : Option Addr) (n cap : Nat) (xs : List Nat) (w : World) (hn : xs.length = n) (hl : Lim w a xs) (hb : n ≤ 9223372036854775807) (hc : chk xs ≠ 0) :
    Calls Try.prog 34 #[.agg #[.slice a n cap]] w fun e w' => e = .returned (.tuple #[.int .u64 0, .bool false]) ∧ Below w.heap.size w w' := by
  have HK := hide (fun (W : World) (h : Lim W a xs) => check_any a cap xs W (by omega) h)
  rw [hn] at HK
  obtain ⟨c, hcc⟩ : ∃ c, c = chk xs := ⟨_, rfl⟩
  rw [← hcc] at HK hc
  have hne : (c != 0) = true := by simp [hc]
  have hne2 : (c == 0) = false := by simp [hc]
  clear hcc hn hc
  go_enter Try.func34, Try.ntmps34
  go_wp2_with fail
  refine (unhide HK _ (hl.alloc _)).mono ?_
  rintro e w1 ⟨rfl, hb1⟩
  have hbx := (Box.made w (.slice a n cap)).kept hb1
  have hcx := hbx.cell
  have HB := hide (gr_trans (gr_alloc w (.cells #[.slice a n cap] 24)) hb1)
  clear hb1 HK
  go_wp2
  go_ret2
  exact ⟨rfl, unhide HB⟩

set_option maxHeartbeats 400000 in
theorem rup_bad (a : Option Addr) (n cap : Nat) (k : Int) (xs : List Nat) (w : World) (hn : xs.length = n) (hl : Lim w a xs) (hb : n ≤ 9223372036854775807) (hc : chk xs ≠ 0) :
    Calls Try.prog 27 #[.agg #[.slice a n cap], .int .i64 k] w fun e w' => e = .returned (.tuple #[.agg #[.slice none 0 0], .int .i64 (chk xs)]) ∧ Below w.heap.size w w' := by
  have HK := hide (fun (W : World) (h : Lim W a xs) => rcheck_any a cap xs W (by omega) h)
  rw [hn] at HK
  obtain ⟨c, hcc⟩ : ∃ c, c = chk xs := ⟨_, rfl⟩
  rw [← hcc] at HK hc ⊢
  have hne : (c != 0) = true := by simp [hc]
  have hne2 : (c == 0) = false := by simp [hc]
  clear hcc hn hc
  go_enter Try.func27, Try.ntmps27
  go_wp2_with fail
  refine (unhide HK _ ((hl.alloc _).alloc _)).mono ?_
  rintro e w1 ⟨rfl, hb1⟩
  have hbx := ((Box.made w (.slice a n cap)).alloc (.cells #[.slice none 0 0] 24)).kept hb1
  have hby := (Box.made (w.alloc (.cells #[.slice a n cap] 24)) (.slice none 0 0)).kept hb1
  simp only [World.size_alloc] at hby
  have hcx := hbx.cell
  have hcy := hby.cell
  have hfy := hby.frozen
  have HB := hide (gr_trans (gr_trans (gr_alloc w (.cells #[.slice a n cap] 24)) (gr_alloc _ (.cells #[.slice none 0 0] 24))) hb1)
  clear hb1 HK
  go_wp2
  exact bodyPost_ret (v := .tuple #[.agg #[.slice none 0 0], .int .i64 (c)]) (by simp [results, Try.results27, go_sem, hcy]) rfl ⟨rfl, (unhide HB).setCell (by simp) _⟩

set_option maxHeartbeats 400000 in
theorem rup_neg (a : Option Addr) (n cap : Nat) (k : Int) (xs : List Nat) (w : World) (hn : xs.length = n) (hl : Lim w a xs) (hb : n ≤ 9223372036854775807) (h0 : chk xs = 0) (hk : k < 0) :
    Calls Try.prog 27 #[.agg #[.slice a n cap], .int .i64 k] w fun e w' => e = .returned (.tuple #[.agg #[.slice none 0 0], .int .i64 2]) ∧ Below w.heap.size w w' := by
  have HK := hide (fun (W : World) (h : Lim W a xs) => rcheck_any a cap xs W (by omega) h)
  rw [hn] at HK
  rw [h0] at HK
  clear h0 hn
  go_enter Try.func27, Try.ntmps27
  go_wp2_with fail
  refine (unhide HK _ ((hl.alloc _).alloc _)).mono ?_
  rintro e w1 ⟨rfl, hb1⟩
  have hbx := ((Box.made w (.slice a n cap)).alloc (.cells #[.slice none 0 0] 24)).kept hb1
  have hby := (Box.made (w.alloc (.cells #[.slice a n cap] 24)) (.slice none 0 0)).kept hb1
  simp only [World.size_alloc] at hby
  have hcx := hbx.cell
  have hcy := hby.cell
  have hfy := hby.frozen
  have HB := hide (gr_trans (gr_trans (gr_alloc w (.cells #[.slice a n cap] 24)) (gr_alloc _ (.cells #[.slice none 0 0] 24))) hb1)
  clear hb1 HK
  go_wp2
  exact bodyPost_ret (v := .tuple #[.agg #[.slice none 0 0], .int .i64 2]) (by simp [results, Try.results27, go_sem, hcy]) rfl ⟨rfl, (unhide HB).setCell (by simp) _⟩

set_option maxHeartbeats 400000 in
theorem rdown_bad (a : Option Addr) (n cap : Nat) (k : Int) (xs : List Nat) (w : World) (hn : xs.length = n) (hl : Lim w a xs) (hb : n ≤ 9223372036854775807) (hc : chk xs ≠ 0) :
    Calls Try.prog 30 #[.agg #[.slice a n cap], .int .i64 k] w fun e w' => e = .returned (.tuple #[.agg #[.slice none 0 0], .int .i64 (chk xs)]) ∧ Below w.heap.size w w' := by
  have HK := hide (fun (W : World) (h : Lim W a xs) => rcheck_any a cap xs W (by omega) h)
  rw [hn] at HK
  obtain ⟨c, hcc⟩ : ∃ c, c = chk xs := ⟨_, rfl⟩
  rw [← hcc] at HK hc ⊢
  have hne : (c != 0) = true := by simp [hc]
  have hne2 : (c == 0) = false := by simp [hc]
  clear hcc hn hc
  go_enter Try.func30, Try.ntmps30
  go_wp2_with fail
  refine (unhide HK _ ((hl.alloc _).alloc _)).mono ?_
  rintro e w1 ⟨rfl, hb1⟩
  have hbx := ((Box.made w (.slice a n cap)).alloc (.cells #[.slice none 0 0] 24)).kept hb1
  have hby := (Box.made (w.alloc (.cells #[.slice a n cap] 24)) (.slice none 0 0)).kept hb1
  simp only [World.size_alloc] at hby
  have hcx := hbx.cell
  have hcy := hby.cell
  have hfy := hby.frozen
  have HB := hide (gr_trans (gr_trans (gr_alloc w (.cells #[.slice a n cap] 24)) (gr_alloc _ (.cells #[.slice none 0 0] 24))) hb1)
  clear hb1 HK
  go_wp2
  exact bodyPost_ret (v := .tuple #[.agg #[.slice none 0 0], .int .i64 (c)]) (by simp [results, Try.results30, go_sem, hcy]) rfl ⟨rfl, (unhide HB).setCell (by simp) _⟩

set_option maxHeartbeats 400000 in
theorem rdown_neg (a : Option Addr) (n cap : Nat) (k : Int) (xs : List Nat) (w : World) (hn : xs.length = n) (hl : Lim w a xs) (hb : n ≤ 9223372036854775807) (h0 : chk xs = 0) (hk : k < 0) :
    Calls Try.prog 30 #[.agg #[.slice a n cap], .int .i64 k] w fun e w' => e = .returned (.tuple #[.agg #[.slice none 0 0], .int .i64 2]) ∧ Below w.heap.size w w' := by
  have HK := hide (fun (W : World) (h : Lim W a xs) => rcheck_any a cap xs W (by omega) h)
  rw [hn] at HK
  rw [h0] at HK
  clear h0 hn
  go_enter Try.func30, Try.ntmps30
  go_wp2_with fail
  refine (unhide HK _ ((hl.alloc _).alloc _)).mono ?_
  rintro e w1 ⟨rfl, hb1⟩
  have hbx := ((Box.made w (.slice a n cap)).alloc (.cells #[.slice none 0 0] 24)).kept hb1
  have hby := (Box.made (w.alloc (.cells #[.slice a n cap] 24)) (.slice none 0 0)).kept hb1
  simp only [World.size_alloc] at hby
  have hcx := hbx.cell
  have hcy := hby.cell
  have hfy := hby.frozen
  have HB := hide (gr_trans (gr_trans (gr_alloc w (.cells #[.slice a n cap] 24)) (gr_alloc _ (.cells #[.slice none 0 0] 24))) hb1)
  clear hb1 HK
  go_wp2
  exact bodyPost_ret (v := .tuple #[.agg #[.slice none 0 0], .int .i64 2]) (by simp [results, Try.results30, go_sem, hcy]) rfl ⟨rfl, (unhide HB).setCell (by simp) _⟩

set_option maxHeartbeats 400000 in
theorem rbits_bad (a : Option Addr) (n cap : Nat) (xs : List Nat) (w : World) (hn : xs.length = n) (hl : Lim w a xs) (hb : n ≤ 9223372036854775807) (hc : chk xs ≠ 0) :
    Calls Try.prog 31 #[.agg #[.slice a n cap]] w fun e w' => e = .returned (.tuple #[.int .i64 0, .int .i64 (chk xs)]) ∧ Below w.heap.size w w' := by
  have HK := hide (fun (W : World) (h : Lim W a xs) => rcheck_any a cap xs W (by omega) h)
  rw [hn] at HK
  obtain ⟨c, hcc⟩ : ∃ c, c = chk xs := ⟨_, rfl⟩
  rw [← hcc] at HK hc ⊢
  have hne : (c != 0) = true := by simp [hc]
  have hne2 : (c == 0) = false := by simp [hc]
  clear hcc hn hc
  go_enter Try.func31, Try.ntmps31
  go_wp2_with fail
  refine (unhide HK _ (hl.alloc _)).mono ?_
  rintro e w1 ⟨rfl, hb1⟩
  have hbx := (Box.made w (.slice a n cap)).kept hb1
  have hcx := hbx.cell
  have HB := hide (gr_trans (gr_alloc w (.cells #[.slice a n cap] 24)) hb1)
  clear hb1 HK
  go_wp2
  go_ret2
  exact ⟨rfl, unhide HB⟩

set_option maxHeartbeats 400000 in
theorem rbit_bad (a : Option Addr) (n cap : Nat) (k : Int) (xs : List Nat) (w : World) (hn : xs.length = n) (hl : Lim w a xs) (hb : n ≤ 9223372036854775807) (hc : chk xs ≠ 0) :
    Calls Try.prog 33 #[.agg #[.slice a n cap], .int .i64 k] w fun e w' => e = .returned (.tuple #[.bool false, .int .i64 (chk xs)]) ∧ Below w.heap.size w w' := by
  have HK := hide (fun (W : World) (h : Lim W a xs) => rcheck_any a cap xs W (by omega) h)
  rw [hn] at HK
  obtain ⟨c, hcc⟩ : ∃ c, c = chk xs := ⟨_, rfl⟩
  rw [← hcc] at HK hc ⊢
  have hne : (c != 0) = true := by simp [hc]
  have hne2 : (c == 0) = false := by simp [hc]
  clear hcc hn hc
  go_enter Try.func33, Try.ntmps33
  go_wp2_with fail
  refine (unhide HK _ (hl.alloc _)).mono ?_
  rintro e w1 ⟨rfl, hb1⟩
  have hbx := (Box.made w (.slice a n cap)).kept hb1
  have hcx := hbx.cell
  have HB := hide (gr_trans (gr_alloc w (.cells #[.slice a n cap] 24)) hb1)
  clear hb1 HK
  go_wp2
  go_ret2
  exact ⟨rfl, unhide HB⟩

set_option maxHeartbeats 400000 in
theorem rbit_neg (a : Option Addr) (n cap : Nat) (k : Int) (xs : List Nat) (w : World) (hn : xs.length = n) (hl : Lim w a xs) (hb : n ≤ 9223372036854775807) (h0 : chk xs = 0) (hk : k < 0) :
    Calls Try.prog 33 #[.agg #[.slice a n cap], .int .i64 k] w fun e w' => e = .returned (.tuple #[.bool false, .int .i64 2]) ∧ Below w.heap.size w w' := by
  have HK := hide (fun (W : World) (h : Lim W a xs) => rcheck_any a cap xs W (by omega) h)
  rw [hn] at HK
  rw [h0] at HK
  clear h0 hn
  go_enter Try.func33, Try.ntmps33
  go_wp2_with fail
  refine (unhide HK _ (hl.alloc _)).mono ?_
  rintro e w1 ⟨rfl, hb1⟩
  have hbx := (Box.made w (.slice a n cap)).kept hb1
  have hcx := hbx.cell
  have HB := hide (gr_trans (gr_alloc w (.cells #[.slice a n cap] 24)) hb1)
  clear hb1 HK
  go_wp2
  go_ret2
  exact ⟨rfl, unhide HB⟩

set_option maxHeartbeats 400000 in
theorem rlow_bad (a : Option Addr) (n cap : Nat) (xs : List Nat) (w : World) (hn : xs.length = n) (hl : Lim w a xs) (hb : n ≤ 9223372036854775807) (hc : chk xs ≠ 0) :
    Calls Try.prog 35 #[.agg #[.slice a n cap]] w fun e w' => e = .returned (.tuple #[.int .u64 0, .bool false]) ∧ Below w.heap.size w w' := by
  have HK := hide (fun (W : World) (h : Lim W a xs) => rcheck_any a cap xs W (by omega) h)
  rw [hn] at HK
  obtain ⟨c, hcc⟩ : ∃ c, c = chk xs := ⟨_, rfl⟩
  rw [← hcc] at HK hc
  have hne : (c != 0) = true := by simp [hc]
  have hne2 : (c == 0) = false := by simp [hc]
  clear hcc hn hc
  go_enter Try.func35, Try.ntmps35
  go_wp2_with fail
  refine (unhide HK _ (hl.alloc _)).mono ?_
  rintro e w1 ⟨rfl, hb1⟩
  have hbx := (Box.made w (.slice a n cap)).kept hb1
  have hcx := hbx.cell
  have HB := hide (gr_trans (gr_alloc w (.cells #[.slice a n cap] 24)) hb1)
  clear hb1 HK
  go_wp2
  go_ret2
  exact ⟨rfl, unhide HB⟩

end Go.Proofs.Ytkpbgjgebjcfeaa
