/- The call nat.multiply answers the product of two rows of limbs, in a new row as long as both together. -/
import Derived.Test.YtkpbgjgebjcfeaaAddTimes
namespace Go.Proofs.Ytkpbgjgebjcfeaa
open Go.RowKit

theorem mul_step {x y : Nat} {lo out pre d : List Nat} {c i l m : Nat} (h : Pl.val lo = x * y) (hl : lo = pre ++ d) (hp : pre.length = i) (ho : out.length = m) (e : Pl.val out + 4294967296 ^ m * c = Pl.val d + l * x) :
    Pl.val (pre ++ out ++ [c]) = x * (y + 4294967296 ^ i * l) := by
  rw [List.append_assoc, Pl.val_append, Pl.val_append, Pl.val_one, hp, ho, e]
  rw [hl, Pl.val_append, hp] at h
  rw [Nat.mul_add, Nat.mul_add, ← Nat.add_assoc, h, Nat.mul_comm l x, Nat.mul_left_comm]

set_option maxHeartbeats 400000 in
theorem multiply_any (b off cap b' off' cap' : Nat) (xs ys : List Nat) (w : World) (hxp : 0 < xs.length) (hx : xs.length ≤ 16384) (hy : ys.length ≤ 16384) (wx : Pl.Wf xs) (wy : Pl.Wf ys)
    (hb : b < w.heap.size) (hb' : b' < w.heap.size)
    (hc : ∀ j, j < xs.length → w.cell? ⟨b, off + j, none⟩ = some (.int .u32 ((xs[j]?.getD 0 : Nat) : Int)))
    (hc' : ∀ j, j < ys.length → w.cell? ⟨b', off' + j, none⟩ = some (.int .u32 ((ys[j]?.getD 0 : Nat) : Int))) :
    Calls Try.prog 75 #[.slice (some ⟨b, off, none⟩) xs.length cap, .slice (some ⟨b', off', none⟩) ys.length cap'] w
      fun e w' => ∃ zs : List Nat, e = .returned (.slice (some ⟨w.heap.size, 0, none⟩) (xs.length + ys.length) (xs.length + ys.length)) ∧ zs.length = xs.length + ys.length ∧ Pl.Wf zs ∧ Pl.val zs = Pl.val xs * Pl.val ys ∧ Row w' w.heap.size zs ∧ Below w.heap.size w w' := by
  have hxn : ¬ xs = [] := fun h => by simp [h] at hxp
  have hmk := make_limbs ((xs.length : Int) + (ys.length : Int)) (xs.length + ys.length) (by omega) (by omega)
  go_enter Try.func75, Try.ntmps75
  go_wp2
  clear hmk
  go_loopw [17] (fun i wr => ∃ (k : Nat) (lo : List Nat), k ≤ ys.length ∧ i = .int .i64 k ∧ lo.length = k + xs.length ∧ Pl.Wf lo ∧ Pl.val lo = Pl.val xs * Pl.val (ys.take k) ∧
      Row wr w.heap.size (lo ++ List.replicate (ys.length - k) 0) ∧ Below w.heap.size w wr) (fun i _ => ys.length - (intOf i).toNat)
  case atStart =>
    refine ⟨0, List.replicate xs.length 0, Nat.zero_le _, rfl, by simp, Pl.wf_replicate _, by simp [Pl.val_replicate, Pl.val], ?_, gr_alloc _ _⟩
    rw [List.replicate_append_replicate]; exact Row.made _ _
  case round =>
    obtain ⟨k, lo, hk, rfl, hlo, wlo, hval, hr, hbel⟩ := hrel
    by_cases hlt : k < ys.length
    · obtain ⟨y, hyy⟩ : ∃ y, y = ys[k]?.getD 0 := ⟨_, rfl⟩
      have hy1 : y < 4294967296 := by rw [hyy]; exact Pl.wf_at wy k
      have hcy : wr.cell? ⟨b', off' + k, none⟩ = some (.int .u32 (y : Int)) := by rw [hyy]; exact (hbel.cell (by exact hb')).trans (hc' k hlt)
      have HC : Hid (∀ j, j < xs.length → wr.cell? ⟨b, off + j, none⟩ = some (.int .u32 ((xs[j]?.getD 0 : Nat) : Int))) := fun j hj => (hbel.cell (by exact hb)).trans (hc j hj)
      have HV : Hid (Pl.val lo = Pl.val xs * Pl.val (ys.take k)) := hval
      have HY : Hid (y = ys[k]?.getD 0) := hyy
      clear hval hyy
      by_cases hz : y = 0
      · subst hz
        go_wp2
        go_roundw
        case rel =>
          refine ⟨k + 1, lo ++ [0], by omega, by go_num, by simp; omega, Pl.wf_append wlo (Pl.wf_one (by omega)), ?_, ?_, hbel⟩
          · rw [Pl.val_append, Pl.val_one, Nat.mul_zero, Nat.add_zero, Pl.val_take_succ ys k hlt, ← HY.out, Nat.mul_zero, Nat.add_zero]; exact HV.out
          · rw [List.append_assoc]
            have e : ys.length - k = ys.length - (k + 1) + 1 := by omega
            rw [e, List.replicate_succ] at hr
            exact hr
        case measure => simp [intOf]; omega
      · have hzb : ((y : Int) == 0) = false := by simpa using hz
        go_wp2_with fail
        have hpd : lo = lo.take k ++ lo.drop k := (List.take_append_drop k lo).symm
        have hpl : (lo.take k).length = k := by rw [List.length_take]; omega
        have hdl : (lo.drop k).length = xs.length := by rw [List.length_drop]; omega
        have wd : Pl.Wf (lo.drop k) := Pl.wf_drop wlo k
        have wp : Pl.Wf (lo.take k) := Pl.wf_take wlo k
        have hrr : Row wr w.heap.size (lo.take k ++ lo.drop k ++ List.replicate (ys.length - k) 0) := by rw [← hpd]; exact hr
        generalize lo.take k = pre at *
        generalize lo.drop k = d at *
        have HD : Hid (lo = pre ++ d) := hpd
        clear hpd
        refine (addTimes_at w.heap.size k xs.length b off _ _ y pre d (List.replicate (ys.length - k) 0) xs wr hpl hdl rfl (by omega) (by omega) wd wx hy1 hrr HC.out).mono ?_
        rintro e w1 ⟨out, c, rfl, hol, wo, hcl, hev, hr1, ho1⟩
        have hrl : (pre ++ out ++ List.replicate (ys.length - k) 0).length = xs.length + ys.length := by simp; omega
        have hcs := hr1.cell (k + xs.length) (by omega)
        have hfs := hr1.frozen (k + xs.length)
        have HR := hide hr1
        have HO := hide ho1
        have HE := hide hev
        have HW := hide hr
        clear hr1 ho1 hev hr hrr hrl
        go_wp2
        go_roundw
        case rel =>
          refine ⟨k + 1, pre ++ out ++ [c], by omega, by go_num, by simp; omega, Pl.wf_append (Pl.wf_append wp wo) (Pl.wf_one hcl), ?_, ?_, ?_⟩
          · rw [Pl.val_take_succ ys k hlt, ← HY.out]
            exact mul_step HV.out HD.out hpl hol (unhide HE)
          · have h := (unhide HR).set (k + xs.length) c (by simp; omega)
            have e : ys.length - k = ys.length - (k + 1) + 1 := by omega
            rw [e, List.replicate_succ, List.set_append_right _ _ (by simp; omega)] at h
            have e2 : k + xs.length - (pre ++ out).length = 0 := by simp; omega
            rw [e2] at h
            simpa using h
          · exact ((unhide HO).setCell _ _).below hbel (Nat.le_refl _)
        case measure => simp [intOf]; omega
    · go_wp2
      have hke : k = ys.length := by omega
      go_ret
      refine ⟨lo, rfl, by omega, wlo, ?_, ?_, hbel⟩
      · rw [hval, hke, List.take_of_length_le (Nat.le_refl _)]
      · rw [hke, Nat.sub_self] at hr
        simpa using hr

end Go.Proofs.Ytkpbgjgebjcfeaa
