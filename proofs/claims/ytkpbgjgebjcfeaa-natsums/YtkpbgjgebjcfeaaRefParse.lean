/- The document's own Parse: the number that a text says, or the fault and its place. -/
import Derived.Test.YtkpbgjgebjcfeaaRefPlus
import Derived.Test.YtkpbgjgebjcfeaaRefMul
import Derived.Test.YtkpbgjgebjcfeaaParse
namespace Go.Proofs.Ytkpbgjgebjcfeaa
open Go.RowKit

set_option maxHeartbeats 400000 in
theorem rparse_long (s : ByteArray) (w : World) (h : 65536 < s.size) (hm : s.size ≤ 9223372036854775807) :
    Calls Try.prog 41 #[.string s] w fun e w' => ParseAns s w.heap.size e w' ∧ Below w.heap.size w w' := by
  have hi : (65536 : Int) < (s.size : Int) := by omega
  have H := hide h
  clear h
  go_enter Try.func41, Try.ntmps41
  go_wp2
  exact bodyPost_ret (v := .tuple #[.agg #[.slice none 0 0], .int .i64 0, .int .i64 3]) (by simp [results, Try.results41, go_sem]) rfl ⟨Or.inl ⟨unhide H, rfl⟩, gr_alloc _ _⟩

set_option maxHeartbeats 400000 in
theorem rparse_none (s : ByteArray) (w : World) (h : s.size = 0) :
    Calls Try.prog 41 #[.string s] w fun e w' => ParseAns s w.heap.size e w' ∧ Below w.heap.size w w' := by
  have H := hide h
  go_enter Try.func41, Try.ntmps41
  go_wp2
  refine wp_loop_rounds 1 ?_
  rw [rounds_succ]
  go_wp2
  exact bodyPost_ret (v := .tuple #[.agg #[.slice none 0 0], .int .i64 0, .int .i64 12]) (by simp [results, Try.results41, go_sem]) rfl ⟨Or.inr (Or.inl ⟨unhide H, rfl⟩), gr_alloc _ _⟩

/-- times of nothing. -/
theorem rtimes_nil (a : Option Addr) (cap b' off' cap' ny : Nat) (w : World) (hy : ny ≤ 40000) :
    Calls Try.prog 67 #[.slice a 0 cap, .slice (some ⟨b', off', none⟩) ny cap'] w
      fun e w' => TimesTo w.heap.size ny 0 e w' ∧ Below w.heap.size w w' := by
  have hmk := make_limbs ((0 : Int) + (ny : Int)) ny (by omega) (by omega)
  rw [Int.zero_add] at hmk
  have HR := hide (Row.made w (List.replicate ny 0))
  go_enter Try.func67, Try.ntmps67
  go_wp2
  clear hmk
  refine wp_loop_rounds 1 ?_
  rw [rounds_succ]
  go_wp2_with fail
  refine (rtrim_at w.heap.size 0 ny ny (List.replicate ny 0) _ (by simp) (Nat.le_refl _) (by omega) (fun j hj => by rw [Nat.zero_add]; exact (unhide HR).cell j hj)).mono ?_
  rintro e w1 ⟨rfl, n, hn, h0, h1, rfl⟩
  have hn2 : n ≤ ny := by simpa using hn
  have HT := hide (rtrim_row (cap := ny) (unhide HR) (Nat.le_refl _) (by simp; omega) (Pl.wf_replicate ny) hn (by simp) hn2 h0 h1)
  clear h0 h1 hn
  go_wp2
  go_ret
  obtain ⟨t1, t2, t3, t4, t5⟩ := unhide HT
  exact ⟨⟨n, _, rfl, hn2, t1, t2, t3, t4, t5.trans (Pl.val_replicate ny)⟩, gr_alloc _ _⟩

/-- times of any list and a list that lies somewhere. -/
theorem rtimes_lim (a : Option Addr) (n cap b' off' ny cap' : Nat) (xs ys : List Nat) (w : World) (hxl : xs.length = n) (hyl : ys.length = ny) (hx : n ≤ 40000) (hy : ny ≤ 40000) (wx : Pl.Wf xs) (wy : Pl.Wf ys) (hl : Lim w a xs) (hgy : b' < w.heap.size)
    (hcy : ∀ j, j < ny → w.cell? ⟨b', off' + j, none⟩ = some (.int .u32 ((ys[j]?.getD 0 : Nat) : Int))) :
    Calls Try.prog 67 #[.slice a n cap, .slice (some ⟨b', off', none⟩) ny cap'] w
      fun e w' => TimesTo w.heap.size (n + ny) (Pl.val xs * Pl.val ys) e w' ∧ Below w.heap.size w w' := by
  rcases hl.parts with h | ⟨hp, b, off, rfl, hlt, hc⟩
  · subst h
    obtain rfl : n = 0 := by rw [← hxl]; rfl
    have := rtimes_nil a cap b' off' cap' ny w hy
    simpa [Pl.val] using this
  · exact rtimes_some b off cap b' off' cap' n ny xs ys w (hide hxl) (hide hyl) hx hy wx wy hlt hgy (hide (fun j hj => hc j (by omega))) (hide hcy)

theorem row_one (w : World) (x : Nat) : Row (w.alloc (.cells #[.int .u32 (x : Int)] 28)) w.heap.size [x] := by
  have := Row.made w [x]
  simpa [lc] using this
theorem rplus_max (a a' : Option Addr) (n n' cap cap' : Nat) (xs ys : List Nat) (w : World) (hn : xs.length = n) (hn' : ys.length = n') (hl : Lim w a xs) (hl' : Lim w a' ys) (hw : Pl.Wf xs) (hw' : Pl.Wf ys) (hN : Pl.Norm xs) (hN' : Pl.Norm ys) (hb : n ≤ 40000) (hb' : n' ≤ 40000) :
    Calls Try.prog 73 #[.slice a n cap, .slice a' n' cap'] w fun e w' => PlusTo w.heap.size (n + n') (Pl.val xs + Pl.val ys) e w' ∧ Below w.heap.size w w' := by
  by_cases h : n ≤ n'
  · refine (rplus_list a a' n n' cap cap' n' xs ys w hn hn' hl hl' hw hw' hN hN' h (Nat.le_refl _) hb' (hide (Or.inr rfl))).mono ?_
    rintro e w' ⟨⟨b, k, c, zs, h1, h2, h3⟩, h4⟩
    exact ⟨⟨b, k, c, zs, h1, by omega, h3⟩, h4⟩
  · refine (rplus_list a a' n n' cap cap' n xs ys w hn hn' hl hl' hw hw' hN hN' (Nat.le_refl _) (by omega) hb (hide (Or.inl rfl))).mono ?_
    rintro e w' ⟨⟨b, k, c, zs, h1, h2, h3⟩, h4⟩
    exact ⟨⟨b, k, c, zs, h1, by omega, h3⟩, h4⟩
theorem Own.lim' {w : World} {base : Nat} {a : Option Addr} {n c : Nat} {xs : List Nat} (h : Own w base (.slice a n c) xs) : Lim w a xs := by
  obtain ⟨a', c', e, _, _, hl⟩ := h.lim
  rw [(Value.slice.inj e).1]; exact hl

theorem dig_len {zs : List Nat} {k : Nat} (hw : Pl.Wf zs) (hN : Pl.Norm zs) (h : Pl.val zs < 10 ^ k) (hk : k ≤ 65536) : zs.length ≤ 7282 := by
  have h1 : 10 ^ k ≤ 10 ^ (9 * (k / 9 + 1)) := Nat.pow_le_pow_right (by decide) (by omega)
  have h2 : 10 ^ (9 * (k / 9 + 1)) ≤ 4294967296 ^ (k / 9 + 1) := by
    rw [Nat.pow_mul]; exact Nat.pow_le_pow_left (by decide) _
  have := (Pl.val_le_len hw hN (k / 9 + 1)).2 (Nat.lt_of_lt_of_le h (Nat.le_trans h1 h2))
  omega
theorem dval_take_lt {ds : List Nat} (h : Pl.Dig ds) (k : Nat) (hk : k ≤ ds.length) : Pl.dval (ds.take k) 0 < 10 ^ k := by
  have := Pl.dval_lt (dig_take h k)
  rwa [List.length_take, Nat.min_eq_left hk] at this
theorem dval_take_add (ds : List Nat) (k j : Nat) (h : k + j ≤ ds.length) : Pl.dval (ds.take (k + j)) 0 = Pl.dval (ds.take k) 0 * 10 ^ j + Pl.dval ((ds.drop k).take j) 0 := by
  rw [List.take_add, dval_append, List.length_take, List.length_drop, Nat.min_eq_left (by omega)]

/-- What stands at the head of a group: so much is read. -/
def RInv (s : ByteArray) (w1 : World) (k : Nat) (v6 : Value) (wr : World) : Prop :=
  ∃ zs : List Nat, Own wr w1.heap.size v6 zs ∧ Pl.Wf zs ∧ Pl.Norm zs ∧ Pl.val zs = Pl.dval ((digs s).take k) 0 ∧ Below w1.heap.size w1 wr

set_option maxRecDepth 20000 in
set_option maxHeartbeats 4000000 in
theorem rparse_in (s : ByteArray) (w : World) (h0 : 0 < s.size) (hmx : s.size ≤ 65536) :
    Calls Try.prog 41 #[.string s] w fun e w' => ParseAns s w.heap.size e w' ∧ Below w.heap.size w w' := by
  have h0i : ((s.size : Int) == 0) = false := by rw [beq_eq_false_iff_ne]; omega
  go_enter Try.func41, Try.ntmps41
  go_wp2
  go_loopw [5] (fun i wr => ∃ k : Nat, k ≤ s.size ∧ i = .int .i64 (k : Int) ∧ Hid (AllD s k) ∧ w.alloc (.cells #[.slice none 0 0] 24) = wr) (fun i _ => s.size - (intOf i).toNat)
  case atStart => exact ⟨0, Nat.zero_le _, rfl, hide (fun j _ hj => absurd hj (Nat.not_lt_zero _)), rfl⟩
  case round =>
    obtain ⟨k, hk, rfl, HA, rfl⟩ := hrel
    by_cases hks : k < s.size
    · obtain ⟨x, hx⟩ : ∃ x, x = (s[k]'hks).toNat := ⟨_, rfl⟩
      have hx1 : x < 256 := by rw [hx]; exact (s[k]'hks).toNat_lt
      have hsx : (s[k]'hks).toNat = x := hx.symm
      have HX := hide hx
      clear hx
      by_cases hb : 48 ≤ x ∧ x ≤ 57
      · obtain ⟨hb1, hb2⟩ := hb
        have hb1i : (48 : Int) ≤ (x : Int) := by omega
        have hb2i : (x : Int) ≤ 57 := by omega
        have HN : Hid (AllD s (k + 1)) := hide (fun j hj hjk => by
          by_cases hjk2 : j < k
          · exact unhide HA j hj hjk2
          · have : j = k := by omega
            subst this
            rw [hsx]
            exact ⟨hb1, hb2⟩)
        go_wp2
        go_roundw
        case rel => exact ⟨k + 1, by omega, by go_num, unhide HN, trivial⟩
        case measure => simp [intOf]; omega
      · have HBad : Hid (¬ (48 ≤ (s[k]'hks).toNat ∧ (s[k]'hks).toNat ≤ 57)) := hide (by rw [hsx]; exact hb)
        by_cases hb1 : x < 48
        · have hb1i : (x : Int) < 48 := by omega
          clear hb
          go_wp2
          exact bodyPost_ret (v := .tuple #[.agg #[.slice none 0 0], .int .i64 (k : Int), .int .i64 12]) (by simp [results, Try.results41, go_sem]) rfl ⟨Or.inr (Or.inr (Or.inl ⟨k, hks, hmx, unhide HA, unhide HBad, rfl⟩)), gr_alloc _ _⟩
        · have hb1i : (48 : Int) ≤ (x : Int) := by omega
          have hb2i : (57 : Int) < (x : Int) := by omega
          clear hb hb1
          go_wp2
          exact bodyPost_ret (v := .tuple #[.agg #[.slice none 0 0], .int .i64 (k : Int), .int .i64 12]) (by simp [results, Try.results41, go_sem]) rfl ⟨Or.inr (Or.inr (Or.inl ⟨k, hks, hmx, unhide HA, unhide HBad, rfl⟩)), gr_alloc _ _⟩
    · have hke : k = s.size := by omega
      subst hke
      clear hk hks
      have hDS := (unhide HA).digS
      have HDS := hide hDS
      clear hDS
      go_wp2
      obtain ⟨W1, hW1⟩ : ∃ W1, w.alloc (.cells #[.slice none 0 0] 24) = W1 := ⟨_, rfl⟩
      have HW1 := hide hW1
      rw [hW1]
      clear hW1
      go_loopw [6, 7] (fun s6 s7 wr => ∃ k : Nat, k ≤ s.size ∧ s7 = .int .i64 (k : Int) ∧ Hid (RInv s W1 k s6 wr)) (fun _ s7 _ => s.size - (intOf s7).toNat)
      case atStart => exact ⟨0, Nat.zero_le _, rfl, hide ⟨[], Or.inl ⟨rfl, rfl⟩, Pl.wf_nil, Pl.norm_nil, rfl, Below.refl _ _⟩⟩
      case round =>
        obtain ⟨k, hk, rfl, HI⟩ := hrel
        by_cases hks : k < s.size
        · obtain ⟨wo, hwo⟩ : ∃ wo, wr = wo := ⟨_, rfl⟩
          obtain ⟨zs, i1, i2, i3, i4, i5⟩ := unhide HI
          obtain ⟨va, vn, vc, rfl⟩ := i1.slice
          have hzl := i1.len
          have hz7 : vn ≤ 7282 := by
            have hd := unhide HDS
            rw [← hzl]
            exact dig_len i2 i3 (by rw [i4]; exact dval_take_lt hd.2.1 k (by have := hd.1; omega)) (by omega)
          rw [hwo] at i1 i5
          have HZ := hide (And.intro i1 (And.intro i2 (And.intro i4 (And.intro i5 hzl))))
          clear i1 i2 i3 i4 i5 hzl HI
          go_wp2
          go_loopw [7, 8, 9, 10] (fun s7 s8 s9 s10 wr2 => ∃ (j v p q : Nat), j ≤ 9 ∧ Hid (q = k + j) ∧ q ≤ s.size ∧ s10 = .int .i64 (j : Int) ∧ s7 = .int .i64 (q : Int) ∧ s8 = .int .u32 (v : Int) ∧ s9 = .int .u32 (p : Int) ∧ Hid (p = 10 ^ j ∧ v = Pl.dval (((digs s).drop k).take j) 0) ∧ wo = wr2) (fun _ _ _ s10 _ => 9 - (intOf s10).toNat)
          case atStart => exact ⟨0, 0, 1, k, by omega, hide rfl, hk, rfl, rfl, rfl, rfl, hide ⟨rfl, rfl⟩, rfl⟩
          case round =>
            obtain ⟨j, v, p, q, hj9, HQ, hqs, rfl, rfl, rfl, rfl, HV, rfl⟩ := hrel
            have hqe := unhide HQ
            obtain ⟨d1, d2, d3⟩ := unhide HDS
            obtain ⟨hp, hv⟩ := unhide HV
            have hdl : ((digs s).drop k).length = s.size - k := by rw [List.length_drop]; omega
            have hvl := dval_take_lt (fun d hd => d2 d (List.mem_of_mem_drop hd)) j (ds := (digs s).drop k) (by omega)
            rw [← hv, ← hp] at hvl
            by_cases hgo : j < 9 ∧ q < s.size
            · obtain ⟨hj8, hks2⟩ := hgo
              have hp8 : p ≤ 100000000 := by rw [hp]; exact Nat.pow_le_pow_right (show 0 < 10 by decide) (show j ≤ 8 by omega)
              obtain ⟨d, hd⟩ : ∃ d, d = (digs s)[q]?.getD 0 := ⟨_, rfl⟩
              have hd9 : d < 10 := by
                rw [hd, List.getElem?_eq_getElem (by omega)]
                exact d2 _ (List.getElem_mem _)
              have hsx : (s[q]'hks2).toNat = 48 + d := by rw [hd]; exact d3 q hks2
              have hv2 : 10 * v + d = Pl.dval (((digs s).drop k).take (j + 1)) 0 := by
                rw [dval_snoc _ j (by omega), ← hv, List.getElem?_drop, ← hqe, ← hd]; omega
              have HV2 : Hid (10 * p = 10 ^ (j + 1) ∧ 10 * v + d = Pl.dval (((digs s).drop k).take (j + 1)) 0) := hide ⟨by rw [hp, Nat.pow_succ, Nat.mul_comm], hv2⟩
              have hvn : v < 100000000 := by omega
              have HQ2 : Hid (q + 1 = k + (j + 1)) := hide (by omega)
              clear d1 d2 d3 hp hv hdl hvl hd hv2 HV hqe HQ hqs hj9 hk
              go_wp2
              go_roundw
              case rel => exact ⟨j + 1, 10 * v + d, 10 * p, q + 1, by omega, HQ2, by omega, by go_num, by go_num, by go_num, by go_num, HV2, trivial⟩
              case measure => simp [intOf]; omega
            · have hex : j = 9 ∨ q = s.size := by omega
              have hjp : 0 < j := by omega
              have hp9 : p ≤ 1000000000 := by rw [hp]; exact pow_nine hj9
              have hv32 : v < 4294967296 := by omega
              obtain ⟨z1, z2, z3, z4, z5⟩ := unhide HZ
              have lim1 : Lim wo va zs := z1.lim'
              have HTM := hide (rtimes_lim va vn vc wo.heap.size 0 1 1 zs [p] (wo.alloc (.cells #[.int .u32 (p : Int)] 28)) z5 rfl (by omega) (by omega) z2 (Pl.wf_one (by omega)) (lim1.alloc _) (by simp) (fun j hj => by rw [Nat.zero_add]; exact (row_one wo p).cell j hj))
              have hval : Pl.dval ((digs s).take q) 0 = Pl.val zs * p + v := by
                rw [hqe, dval_take_add _ k j (by omega), hp, hv, z3]
              have HVAL := hide hval
              have HB0 := hide (gr_trans z4 (gr_alloc wo (.cells #[.int .u32 (p : Int)] 28)))
              have HMS : Hid (k < q) := hide (by omega)
              have HS : Hid (q ≤ s.size) := hide hqs
              have hcase : (j = 9) ∨ (j < 9 ∧ q = s.size) := by omega
              clear z1 z2 z3 z4 z5 lim1 hval hp hv hvl hdl d1 d2 d3 hgo hqe hk hj9 hqs HV HQ HZ hp9 hjp hex
              rcases hcase with rfl | ⟨hj8, rfl⟩
              all_goals (
                go_wp2_with fail
                refine (unhide HTM).mono ?_
                rintro e w2 ⟨⟨tn, ts, rfl, t1, t2, t3, t4, t5, t6⟩, hb2⟩
                simp only [World.size_alloc] at t3
                have hR2 := row_one w2 v
                have HB2 := hide (gr_trans (gr_trans (unhide HB0) hb2) (gr_alloc w2 (.cells #[.int .u32 (v : Int)] 28)))
                have HT2 := hide (And.intro (t3.kept (gr_alloc w2 (.cells #[.int .u32 (v : Int)] 28))) (And.intro t4 (And.intro t5 (And.intro t6 t2))))
                have HTR := hide (rtrim_at w2.heap.size 0 1 1 [v] (w2.alloc (.cells #[.int .u32 (v : Int)] 28)) rfl (by omega) (by omega) (fun j hj => by rw [Nat.zero_add]; exact hR2.cell j hj))
                have HR2 := hide hR2
                clear hR2 t2 t3 t4 t5 t6 hb2 HB0 HTM
                go_wp2_with fail
                refine (unhide HTR).mono ?_
                rintro e w3 ⟨hw3, l2, hl2, z0, z1, rfl⟩
                have HRT := hide (rtrim_row (cap := 1) (unhide HR2) (Nat.le_refl _) (by simp) (Pl.wf_one hv32) hl2 (by simp) (by simpa using hl2) z0 z1)
                have hl1 : l2 ≤ 1 := by simpa using hl2
                have HPL := hide (show Calls Try.prog 73 #[.slice (some ⟨_, 0, none⟩) tn (vn + 1), .slice (some ⟨w2.heap.size, 0, none⟩) l2 1] (w2.alloc (.cells #[.int .u32 (v : Int)] 28)) _ from
                  rplus_max _ _ tn l2 (vn + 1) 1 ts ([v].take l2) (w2.alloc (.cells #[.int .u32 (v : Int)] 28)) (unhide HT2).2.2.2.2 (unhide HRT).1 (unhide HT2).1.lim' (unhide HRT).2.1.lim' (unhide HT2).2.1 (unhide HRT).2.2.1 (unhide HT2).2.2.1 (unhide HRT).2.2.2.1 (by omega) (by omega))
                subst hw3
                clear z0 z1 hl2 HTR HR2
                go_wp2_with fail
                refine (unhide HPL).mono ?_
                rintro e w4 ⟨⟨pa, pn, pc, ps, rfl, p1, p2, p3, p4, p5, p6⟩, hb4⟩
                have HI2 : Hid (RInv s W1 _ (.slice pa pn pc) w4) := hide (by
                  obtain ⟨g1, g2, g3, g4, g5⟩ := unhide HT2
                  obtain ⟨r1, r2, r3, r4, r5⟩ := unhide HRT
                  refine ⟨ps, p3.mono (unhide HB2).size, p4, p5, ?_, gr_trans (unhide HB2) hb4⟩
                  rw [p6, r5, g4, Pl.val_one, Pl.val_one]
                  exact (unhide HVAL).symm)
                clear p1 p2 p3 p4 p5 p6 hb4 HPL HT2 HRT HB2 HVAL
                go_wp2
                go_roundw
                case rel => exact ⟨_, unhide HS, rfl, HI2⟩
                case measure => have := unhide HMS; simp [intOf]; omega)
        · obtain rfl : k = s.size := by omega
          obtain ⟨zs, i1, i2, i3, i4, i5⟩ := unhide HI
          obtain ⟨va, vn, vc, rfl⟩ := i1.slice
          have hzl := i1.len
          have hdd := unhide HDS
          have hz7 : vn ≤ 7282 := by
            rw [← hzl]
            exact dig_len i2 i3 (by rw [i4]; exact dval_take_lt hdd.2.1 _ (by have := hdd.1; omega)) (by omega)
          rw [List.take_of_length_le (by have := hdd.1; omega)] at i4
          have hW := unhide HW1
          have hsz : w.heap.size ≤ W1.heap.size := by rw [← hW]; simp
          have hby : Box wr w.heap.size (.slice none 0 0) := by
            have := Box.made w (.slice none 0 0)
            rw [hW] at this
            exact this.kept i5
          have HM := hide (show Mine (wr.alloc (.cells #[.slice va vn vc] 24)) w.heap.size va vn vc (Pl.dval (digs s) 0) from ⟨zs, hzl, (i1.mono hsz).kept (gr_alloc _ _), i2, i3, i4, by omega⟩)
          have hby2 := hby.alloc (.cells #[.slice va vn vc] 24)
          have hbx : Below w.heap.size w wr := by
            have h1 := gr_alloc w (.cells #[.slice none 0 0] 24)
            rw [hW] at h1
            exact gr_trans h1 i5
          have HB := hide (gr_trans hbx (gr_alloc wr (.cells #[.slice va vn vc] 24)))
          have HBY := hide hby2
          clear hk hks i1 i2 i3 i4 i5 hzl hdd hW hsz hby hby2 hbx HI
          go_wp2_with fail
          refine (rnat_any _ va vn vc _ rfl).mono ?_
          rintro e w3 ⟨rfl, rfl⟩
          have hcx := (unhide HBY).cell
          have hfx := (unhide HBY).frozen
          go_wp2
          exact bodyPost_ret (v := .tuple #[.agg #[.slice va vn vc], .int .i64 0, .int .i64 0]) (by simp [results, Try.results41, go_sem, hcx]) rfl
            ⟨Or.inr (Or.inr (Or.inr ⟨_, vn, vc, h0, hmx, unhide HA, rfl, (unhide HM).setBox (unhide HBY) _⟩)), (unhide HB).setCell (Nat.le_refl _) _⟩

/-- Every text. -/
theorem rparse_any (s : ByteArray) (w : World) (hm : s.size ≤ 9223372036854775807) :
    Calls Try.prog 41 #[.string s] w fun e w' => ParseAns s w.heap.size e w' ∧ Below w.heap.size w w' := by
  by_cases h0 : s.size = 0
  · exact rparse_none s w h0
  · by_cases hl : s.size ≤ 65536
    · exact rparse_in s w (by omega) hl
    · exact rparse_long s w (by omega) hm

end Go.Proofs.Ytkpbgjgebjcfeaa
