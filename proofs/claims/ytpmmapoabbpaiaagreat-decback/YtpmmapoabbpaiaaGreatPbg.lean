/- Of what DecBackRow stands on: DcBytes. -/
import Derived.Test.YtpmmapoabbpaiaaGreatPal
import Derived.Lib.BytesEntry
import Derived.Lib.Bytealg
namespace Go.Proofs.YtpmmapoabbpaiaaGreat
open Go.RowKit
set_option maxHeartbeats 1000000
set_option maxRecDepth 20000
theorem comp_chars:∀ (ds es:List Nat),ds.length = es.length→Pl.Dig ds→Pl.Dig es→Lib.compareBytes (chars ds) (chars es) = if Pl.dval ds 0 < Pl.dval es 0 then -1 else if Pl.dval es 0 < Pl.dval ds 0 then 1 else 0
 | [],[],_,_,_=>rfl
 | [],_ :: _,h,_,_=>by cases h
 | _ :: _,[],h,_,_=>by cases h
 | a :: ds,b :: es,h,hd,he=>by
  have hl:ds.length = es.length:=by simpa using h
  have hd':Pl.Dig ds:=fun x hx=>hd x (List.mem_cons_of_mem _ hx)
  have he':Pl.Dig es:=fun x hx=>he x (List.mem_cons_of_mem _ hx)
  have ih:=comp_chars ds es hl hd' he'
  have ha:=hd a (by simp)
  have hb:=he b (by simp)
  have l1:=Pl.dval_lt hd'
  have l2:=Pl.dval_lt he'
  have e1:(UInt8.ofNat (48+a)).toNat = 48+a:=by simp; omega
  have e2:(UInt8.ofNat (48+b)).toNat = 48+b:=by simp; omega
  show Lib.compareBytes (UInt8.ofNat (48+a) :: chars ds) (UInt8.ofNat (48+b) :: chars es) = _
  rw [Pl.dval_cons,Pl.dval_cons,← hl]
  rw [← hl] at l2
  generalize 10 ^ ds.length = T at *
  unfold Lib.compareBytes
  rcases Nat.lt_trichotomy a b with h1|h1|h1
  ·have hm:(a+1) * T≤b * T:=Nat.mul_le_mul_right T h1
   rw [Nat.add_mul] at hm
   rw [if_pos (UInt8.lt_iff_toNat_lt.2 (by omega)),if_pos (by omega)]
  ·subst h1
   rw [if_neg (fun h=>by have:=UInt8.lt_iff_toNat_lt.1 h; omega),if_neg (fun h=>by have:=UInt8.lt_iff_toNat_lt.1 h; omega),ih]
   by_cases h2:Pl.dval ds 0 < Pl.dval es 0
   ·rw [if_pos h2,if_pos (by omega)]
   ·rw [if_neg h2,if_neg (show ¬ a * T+Pl.dval ds 0 < a * T+Pl.dval es 0 by omega)]
    by_cases h3:Pl.dval es 0 < Pl.dval ds 0
    ·rw [if_pos h3,if_pos (by omega)]
    ·rw [if_neg h3,if_neg (by omega)]
  ·have hm:(b+1) * T≤a * T:=Nat.mul_le_mul_right T h1
   rw [Nat.add_mul] at hm
   rw [if_neg (fun h=>by have:=UInt8.lt_iff_toNat_lt.1 h; omega),if_pos (UInt8.lt_iff_toNat_lt.2 (by omega)),if_neg (by omega),if_pos (by omega)]
theorem load_row (w:World) (B n:Nat) (ds:List Nat) (h:BT w B (ds.map (48+·))) (hn:ds.length = n):(Extern.Bytes.bytesOf (.slice (some ⟨B,0,none⟩) n n)).run Tryz.prog w = .ok ⟨(chars ds).toArray⟩ w:=by
 have h1:=Lib.run_loadBytesX (P:=Tryz.prog) w (ds.map (fun d=>((48+d:Nat):Int))) ⟨B,0,none⟩ ByteArray.empty (fun j x hx=>by
  rw [List.getElem?_map] at hx
  obtain ⟨d,hd1,rfl⟩:=Option.map_eq_some_iff.1 hx
  have hj:j < ds.length:=by
   by_cases hj:j < ds.length
   ·exact hj
   ·rw [List.getElem?_eq_none (by omega)] at hd1; cases hd1
  have hc:=h.cell j (by simp; omega)
  rw [List.getElem?_map,hd1] at hc
  rw [Addr.add_lit,Nat.zero_add]
  exact hc)
 rw [List.length_map,hn] at h1
 show (Extern.Bytes.loadBytes ⟨B,0,none⟩ n ByteArray.empty).run Tryz.prog w = _
 rw [h1]
 congr 1
 apply ByteArray.ext
 show (#[]:Array UInt8) ++ _ = _
 rw [Array.empty_append]
 congr 1
 unfold Lib.bytesOf chars
 rw [List.map_map]
 exact List.map_congr_left fun d _=>rfl
theorem compB_any (B C n:Nat) (ds es:List Nat) (w:World) (hn:ds.length = n) (hn2:es.length = n) (hd:Pl.Dig ds) (he:Pl.Dig es) (hrow:BT w B (ds.map (48+·))) (hrow2:BT w C (es.map (48+·))) :
  Calls Tryz.prog 82 #[.slice (some ⟨B,0,none⟩) n n,.slice (some ⟨C,0,none⟩) n n] w fun e w'=>e = .returned (.int .i64 (if Pl.dval ds 0 < Pl.dval es 0 then -1 else if Pl.dval es 0 < Pl.dval ds 0 then 1 else 0))∧w' = w:=by
 have h1:=load_row w B n ds hrow hn
 have h2:=load_row w C n es hrow2 hn2
 have hc:(Extern.BytealgCompare.compare #[.slice (some ⟨B,0,none⟩) n n,.slice (some ⟨C,0,none⟩) n n]).run Tryz.prog w = .ok (.int .i64 (Lib.compareBytes (chars ds) (chars es))) w:=by
  show ((do pure (goInt (Extern.BytealgCompare.cmp (← Extern.Bytes.bytesOf (.slice (some ⟨B,0,none⟩) n n)) (← Extern.Bytes.bytesOf (.slice (some ⟨C,0,none⟩) n n)))):Sem Value)).run Tryz.prog w = _
  rw [Sem.run_bind,h1,Result.andThen_ok,Sem.run_bind,h2,Result.andThen_ok,Sem.run_pure,Lib.cmp_eq]
  rfl
 rw [comp_chars ds es (by omega) hd he] at hc
 clear hrow hrow2 h1 h2 hn hn2 hd he
 generalize (if Pl.dval ds 0 < Pl.dval es 0 then (-1:Int) else if Pl.dval es 0 < Pl.dval ds 0 then 1 else 0) = c at hc ⊢
 go_enter Tryz.func82,Tryz.ntmps82
 go_wp2
 rw [run_callFunc_extern Tryz.func111 (by kernel_rfl) (by kernel_rfl) (by kernel_rfl) (e:=Extern.BytealgCompare.compare) (by kernel_rfl),hc]
 simp only [Result.andThen]
 rw [Oper.upon_value]
 go_wp2
 go_ret
 exact ⟨rfl,rfl⟩
end Go.Proofs.YtpmmapoabbpaiaaGreat
