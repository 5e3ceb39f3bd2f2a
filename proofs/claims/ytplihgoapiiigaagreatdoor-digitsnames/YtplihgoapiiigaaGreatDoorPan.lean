/- Of what DigitsNamesRow stands on: BgUp BgShN PwSym. -/
import Derived.Test.YtplihgoapiiigaaGreatDoorPal
import Derived.Test.YtplihgoapiiigaaGreatDoorPaf
import Derived.Test.YtplihgoapiiigaaGreatDoorPam
import Derived.Test.YtplihgoapiiigaaGreatDoorPai
import Derived.Test.YtplihgoapiiigaaGreatDoorPaj
import Derived.Test.YtplihgoapiiigaaGreatDoorPad
namespace Go.Proofs.YtplihgoapiiigaaGreatDoor
open Go.RowKit
set_option maxHeartbeats 1000000
theorem bup_row (b off cap n wh pt k:Nat) (xs:List Nat) (w:World) (hn:Hid (xs.length = n)) (hn0:0 < n) (hlen:n≤20000) (hx:Pl.Wf xs) (hlt:b < w.heap.size) (hk:Hid (k = 32 * wh+pt)) (hpt:pt < 32) (hwh:wh≤20000)
  (hc:∀ j,j < n→w.cell? ⟨b,off+j,none⟩ = some (.int .u32 ((xs[j]?.getD 0:Nat):Int))) :
  Calls Tryz.prog 55 #[.slice (some ⟨b,off,none⟩) n cap,.int .i64 (k:Int)] w
   fun e w'=>(∃ A N C,e = .returned (.slice A N C)∧∃ ys,ys.length = N∧N≤n+wh+1∧Own w' w.heap.size (.slice A N C) ys∧Pl.Wf ys∧Pl.Norm ys∧Pl.val ys = Pl.val xs * 2 ^ k)∧Below w.heap.size w w':=by
 have hmk:=make_limbs ((n:Int)+(wh:Int)+1) (n+wh+1) (by omega) (by omega)
 have hq:(k:Int) / 32 = (wh:Int):=by have:=unhide hk; omega
 have hr:(k:Int) % 32 = (pt:Int):=by have:=unhide hk; omega
 have HP:Hid (k % 32 = pt):=by have:=unhide hk; exact hide (by omega)
 have hne:((n:Int) == 0) = false:=beq_false_of_ne (by omega)
 go_enter Tryz.func55,Tryz.ntmps55
 go_wp2
 clear hmk hq hr
 go_loopw [8] (fun i wr=>∃ (j c:Nat) (os:List Nat),j≤n∧i = .int .i64 (j:Int)∧c < 2 ^ pt∧os.length = j∧Pl.Wf os∧Pl.val os+4294967296 ^ j * c = Pl.val (xs.take j) * 2 ^ pt ∧
   Row wr w.heap.size (List.replicate wh 0 ++ (os ++ c :: List.replicate (n - j) 0))∧Below w.heap.size w wr) (fun i _=>n - (intOf i).toNat)
 case atStart=>
  refine ⟨0,0,[],Nat.zero_le _,rfl,Nat.pow_pos (by decide),rfl,Pl.wf_nil,by simp [Pl.val],?_,gr_alloc _ _⟩
  have e:List.replicate wh 0 ++ ([] ++ 0 :: List.replicate (n - 0) 0) = List.replicate (n+wh+1) 0:=by
   rw [List.nil_append,Nat.sub_zero,← List.replicate_succ,List.replicate_append_replicate]; congr 1; omega
  rw [e]
  exact Row.made _ _
 case round=>
  obtain ⟨j,c,os,hj,rfl,hcl,hol,how,hval,hr,hbel⟩:=hrel
  have hxl:=unhide hn
  by_cases hjn:j < n
  ·obtain ⟨x,hxx⟩:∃ x,x = xs[j]?.getD 0:=⟨_,rfl⟩
   obtain ⟨m,hm⟩:∃ m,n - j = m+1:=⟨n - j - 1,by omega⟩
   rw [hm] at hr
   have hx1:x < 4294967296:=by rw [hxx]; exact Pl.wf_at hx j
   have hcx:wr.cell? ⟨b,off+j,none⟩ = some (.int .u32 (x:Int)):=by rw [hxx]; exact (hbel.cell (by exact hlt)).trans (hc j hjn)
   have hc1:=hr.cell (wh+j) (by simp; omega)
   have hc2:=hr.cell (wh+j+1) (by simp; omega)
   rw [← hol,up_at1] at hc1
   rw [← hol,up_at2] at hc2
   rw [hol] at hc1 hc2
   have hf1:=hr.frozen (j+wh)
   have hf2:=hr.frozen (j+wh+1)
   rw [Nat.add_comm wh j] at hc1 hc2
   have HR:Hid (∀ v1 v2:Nat,Row ((wr.setCell ⟨w.heap.size,j+wh,none⟩ (.int .u32 (v1:Int))).setCell ⟨w.heap.size,j+wh+1,none⟩ (.int .u32 (v2:Int))) w.heap.size (List.replicate wh 0 ++ ((os ++ [v1]) ++ v2 :: List.replicate m 0))):=fun v1 v2=>by
    have h1:=hr.set (wh+j) v1 (by simp; omega)
    rw [← hol,up_set1] at h1
    have h2:=h1.set (wh+(os ++ [v1]).length) v2 (by simp)
    rw [up_set2] at h2
    rw [← hol,Nat.add_comm os.length wh]
    simpa [Nat.add_assoc] using h2
   have HV:Hid (∀ lo hi:Nat,x * 2 ^ pt = 4294967296 * hi+lo→Pl.val (os ++ [c+lo])+4294967296 ^ (j+1) * hi = Pl.val (xs.take (j+1)) * 2 ^ pt):=fun lo hi e=>by
    rw [Pl.val_append,Pl.val_one,hol,Pl.val_take_any xs j,← hxx]
    exact up_step (Nat.pow_succ ..) hval rfl e
   have HM:=hide hm
   clear hval hxx hr hxl hc hm
   go_wp2
   go_roundw
   case rel=>
    have sw:=sh_wrap (k:=pt) hx1 (Nat.mod_eq_of_lt hpt) hpt
    rw [Nat.mod_eq_of_lt hpt] at sw
    have hh:((x * 2 ^ pt:Nat):Int) / 4294967296 % 4294967296 = ((x * 2 ^ pt / 4294967296:Nat):Int):=by
     have:=high_lt (pt:=pt) hx1
     have:=pow_lt32 hpt
     omega
    rw [sw,or_low hcl hpt,hh]
    have hm:=unhide HM
    refine ⟨j+1,x * 2 ^ pt / 4294967296,os ++ [c+x * 2 ^ pt % 4294967296],by omega,by go_num,high_lt hx1,by simp [hol],Pl.wf_append how (Pl.wf_one (low_lt hcl hpt)),unhide HV _ _ (Nat.div_add_mod _ _).symm,?_,(hbel.setCell (Nat.le_refl _) _).setCell (Nat.le_refl _) _⟩
    rw [show n - (j+1) = m by omega]
    exact unhide HR _ _
   case measure=>simp [intOf]; omega
  ·have hje:j = n:=by omega
   subst hje
   rw [List.take_of_length_le (by omega)] at hval
   rw [Nat.sub_self] at hr
   have hc32:=pow_lt32 hpt
   have HV:Hid (Pl.val (List.replicate wh 0 ++ (os ++ [c])) = Pl.val xs * 2 ^ k):=by
    rw [Pl.val_append,Pl.val_replicate,List.length_replicate,Nat.zero_add,Pl.val_append,Pl.val_one,hol]
    exact up_end (unhide hk) hval
   have HW:Hid (Pl.Wf (List.replicate wh 0 ++ (os ++ [c]))):=Pl.wf_append (Pl.wf_replicate wh) (Pl.wf_append how (Pl.wf_one (by omega)))
   have HR:=hide hr
   clear hval hr hc hxl
   go_wp2_with fail
   refine (btrim_own w.heap.size (.slice (some ⟨w.heap.size,0,none⟩) (j+wh+1) (j+wh+1)) (List.replicate wh 0 ++ (os ++ [c])) wr ?_ (unhide HW)).mono ?_
   ·have k:=(unhide HR).own (base:=w.heap.size) (Nat.le_refl _) (j+wh+1) (j+wh+1) (Nat.le_refl _) (by simp [hol]; omega) (by simp [hol]; omega)
    rwa [List.take_of_length_le (by simp [hol]; omega)] at k
   ·rintro e w1 ⟨rfl,A,N,C,ys,rfl,h1,h2,h3,h4,h5,h6⟩
    go_wp2
    go_ret
    exact ⟨⟨A,N,C,rfl,ys,h2,by simp [hol] at h1; omega,h3,h4,h5,by rw [h6]; exact unhide HV⟩,hbel⟩
theorem bup_num (a:Option Addr) (n c m k:Nat) (w:World) (h:Num w a n m) (hk:k < 600000) (hf:n+k / 32+1≤16384) :
  Calls Tryz.prog 55 #[.slice a n c,.int .i64 (k:Int)] w fun e w'=>(∃ A N C,e = .returned (.slice A N C)∧Mine w' w.heap.size A N C (m * 2 ^ k))∧Below w.heap.size w w':=by
 have hz:=h.zero
 obtain ⟨xs,hn,hl,hw,hN,hv,hb⟩:=h
 rcases hl.parts with hx|⟨hp,b,off,rfl,hlt,hc⟩
 ·have h0:n = 0:=by rw [← hn,hx]; rfl
  have hm:=hz.1 h0
  subst h0 hm
  clear hl hv hn hx hz
  go_enter Tryz.func55,Tryz.ntmps55
  go_wp2
  go_ret
  exact ⟨⟨none,0,0,rfl,by rw [Nat.zero_mul]; exact mine_nil' w _⟩,gr_refl _⟩
 ·refine (bup_row b off c n (k / 32) (k % 32) k xs w (hide hn) (by omega) (by omega) hw hlt (hide (by omega)) (by omega) (by omega) (fun j hj=>hc j (by omega))).mono ?_
  rintro e w' ⟨⟨A,N,C,rfl,ys,h1,h2,h3,h4,h5,h6⟩,hbl⟩
  exact ⟨⟨A,N,C,rfl,ys,h1,h3,h4,h5,by rw [h6,hv],by omega⟩,hbl⟩
theorem addr_add (b o n:Nat):Addr.add ⟨b,o,none⟩ n = ⟨b,o+n,none⟩:=by
 unfold Addr.add
 split
 ·next h=>subst h; rfl
 ·rfl
theorem script_isl {P:Program} {r:Nat} {t el:TypeId} {len b off j c:Nat} {i:Int} (hu:P.underlying t = some (.slice el)) (hs:∀ r,script P r (sizeOf el) [] = some (1,[])) (hi:i = (j:Int)) (hj:j < len) :
  script P r (Instr.indexAt t (.slice (some ⟨b,off,none⟩) len c) (.int .i64 i)) [] = some (.pointer (some ⟨b,off+j,none⟩),[]):=by
 subst hi
 unfold Instr.indexAt
 rw [script_bind P r _ _ [] (IntKind.i64,(j:Int)) rfl]
 simp only []
 rw [script_bind P r _ _ [] _ (script_under hu)]
 simp only []
 rw [script_bind P r _ _ [] (some (⟨b,off,none⟩:Addr),len,el) rfl,script_bind P r _ _ [] _ (script_under hu)]
 simp only []
 rw [if_pos (by omega),script_bind P r _ _ [] _ (hs r)]
 show some (Value.pointer (some (Addr.add ⟨b,off,none⟩ ((j:Int).toNat * 1))),[]) = _
 rw [Int.toNat_natCast,Nat.mul_one,addr_add]
end Go.Proofs.YtplihgoapiiigaaGreatDoor
