/- Of what NearMeetsRow stands on: RRat Rc8Eq. -/
import Derived.Test.YtaidedkpfnidpaaGreatDoorPaz
import Derived.Test.YtaidedkpfnidpaaGreatDoorPaq
import Derived.Test.YtaidedkpfnidpaaGreatDoorPab
import Derived.BigQuiet
import Derived.Laws.StructEq
namespace Go.Proofs.YtaidedkpfnidpaaGreatDoor
open Go.RowKit
set_option maxHeartbeats 2000000
set_option maxRecDepth 20000
structure Fq (w:World) (s:Bool) (a:Option Addr) (n:Nat) (a':Option Addr) (n':Nat) (x:Rat):Prop where
 neg:s = decide (x.num < 0)
 num:Num w a n x.num.natAbs
 den:Num w a' n' x.den
theorem Fq.q {w:World} {s:Bool} {a a':Option Addr} {n n':Nat} {x:Rat} (h:Fq w s a n a' n' x):Rm.Q x s x.num.natAbs x.den:=by rw [h.neg]; exact Rm.Q.self x
theorem Fq.kept {w w':World} {s:Bool} {a a':Option Addr} {n n':Nat} {x:Rat} (h:Fq w s a n a' n' x) (hb:Below w.heap.size w w'):Fq w' s a n a' n' x:=⟨h.neg,h.num.kept hb,h.den.kept hb⟩
theorem Fq.alloc {w:World} {s:Bool} {a a':Option Addr} {n n':Nat} {x:Rat} (h:Fq w s a n a' n' x) (o:Obj):Fq (w.alloc o) s a n a' n' x:=h.kept (gr_alloc _ _)
theorem eqS_some (b off b' off' cap cap' n:Nat) (xs ys:List Nat) (w:World) (hxn:Hid (xs.length = n)) (hyn:Hid (ys.length = n)) (hlt:b < w.heap.size) (hlt':b' < w.heap.size) (hbig:n≤16384)
  (hc:∀ j,j < n→w.cell? ⟨b,off+j,none⟩ = some (.int .u32 ((xs[j]?.getD 0:Nat):Int)))
  (hc':∀ j,j < n→w.cell? ⟨b',off'+j,none⟩ = some (.int .u32 ((ys[j]?.getD 0:Nat):Int))) :
  Calls Tryz.prog 81 #[.slice (some ⟨b,off,none⟩) n cap,.slice (some ⟨b',off',none⟩) n cap'] w
   fun e w'=>e = .returned (.bool (decide (xs = ys)))∧Below w.heap.size w w':=by
 go_enter Tryz.func81,Tryz.ntmps81
 go_wp2
 go_loopw [13] (fun t wr=>∃ k:Nat,k≤n∧t = .int .i64 (k:Int)∧xs.take k = ys.take k∧Below w.heap.size w wr) (fun t _=>n - (intOf t).toNat)
 case atStart=>exact ⟨0,Nat.zero_le _,rfl,by simp,gr_refl _⟩
 case round=>
  obtain ⟨k,hk,rfl,hd,hBw⟩:=hrel
  by_cases hkn:k = n
  ·subst hkn
   have hxl:=unhide hxn
   have hyl:=unhide hyn
   have he:xs = ys:=by
    rw [List.take_of_length_le (by omega),List.take_of_length_le (by omega)] at hd; exact hd
   have HE:=hide he
   have HBw:=hide hBw
   clear hd he hBw hc hc' hxl hyl
   go_wp2
   go_ret
   exact ⟨ret_bool (by simp [unhide HE]),unhide HBw⟩
  ·obtain ⟨x,hxx⟩:∃ x,x = xs[k]?.getD 0:=⟨_,rfl⟩
   obtain ⟨y,hyy⟩:∃ y,y = ys[k]?.getD 0:=⟨_,rfl⟩
   have hcx:wr.cell? ⟨b,off+k,none⟩ = some (.int .u32 (x:Int)):=by rw [hxx]; exact (hBw.cell (by exact hlt)).trans (hc k (by omega))
   have hcy:wr.cell? ⟨b',off'+k,none⟩ = some (.int .u32 (y:Int)):=by rw [hyy]; exact (hBw.cell (by exact hlt')).trans (hc' k (by omega))
   have hxl:=unhide hxn
   have hyl:=unhide hyn
   have hj2:(k:Int) < (n:Int):=by omega
   have HL:Hid (x = y→xs.take (k+1) = ys.take (k+1)):=fun e=>by
    rw [List.take_add_one,List.take_add_one,hd]
    congr 1
    rw [List.getElem?_eq_getElem (by omega:k < xs.length)] at hxx ⊢
    rw [List.getElem?_eq_getElem (by omega:k < ys.length)] at hyy ⊢
    simp at hxx hyy
    simp [← hxx,← hyy,e]
   have HN:Hid (x≠y→xs≠ys):=fun e e2=>e (by rw [hxx,hyy,e2])
   have HBw:=hide hBw
   clear hxx hyy hd hxl hyl hc hc' hBw
   go_wp2_with fail
   go_quiet (fail)
   by_cases he:x = y
   ·subst he
    go_wp2
    go_roundw
    case rel=>exact ⟨k+1,by omega,by go_num,unhide HL rfl,below_drewN (unhide HBw) _⟩
    case measure=>simp [intOf]; omega
   ·have hf:((x:Int) != (y:Int)) = true:=by simp; omega
    have HE:=hide he
    clear he
    go_wp2
    go_ret
    exact ⟨ret_bool (by simp [unhide HN (unhide HE)]),below_drewN (unhide HBw) _⟩
theorem eqS_any (a a':Option Addr) (n cap cap' m m':Nat) (w:World) (h:Num w a n m) (h':Num w a' n m') :
  Calls Tryz.prog 81 #[.slice a n cap,.slice a' n cap'] w fun e w'=>e = .returned (.bool (decide (m = m')))∧Below w.heap.size w w':=by
 obtain ⟨xs,hn,hl,hw,hN,hv,hb⟩:=h
 obtain ⟨ys,hn',hl',hw',hN',hv',hb'⟩:=h'
 have hdec:decide (m = m') = decide (xs = ys):=by
  rw [decide_eq_decide]
  exact ⟨fun e=>Pl.val_inj hw hw' hN hN' (by omega),fun e=>by rw [← hv,← hv',e]⟩
 rw [hdec]
 rcases hl.parts with hx|⟨hp,b,off,rfl,hlt,hc⟩
 ·have hn0:n = 0:=by rw [← hn,hx]; rfl
  have hy:ys = []:=List.length_eq_zero_iff.1 (by omega)
  subst hx hy hn0
  clear hn hn' hv hv' hdec
  go_enter Tryz.func81,Tryz.ntmps81
  go_wp2
  refine wp_loop_rounds 1 ?_
  rw [rounds_succ]
  go_wp2
  go_ret
  exact ⟨rfl,gr_refl _⟩
 ·rcases hl'.parts with hy|⟨hp',b',off',rfl,hlt',hc'⟩
  ·rw [hy] at hn'; simp at hn'; omega
  ·exact eqS_some b off b' off' cap cap' n xs ys w (hide hn) (hide hn') hlt hlt' hb (fun j hj=>hc j (by omega)) (fun j hj=>hc' j (by omega))
theorem shape_under:Tryz.prog.underlying 131 = some (.struct (Tryz.prog.fieldsOf 131)):=by kernel_rfl
theorem eq_shape (s t:Bool) (n1 n2 n3 n4:Nat) (W:World) :
  (Op.equalIn 10000 131 (.agg #[.bool s,.int .i64 (n1:Int),.int .i64 (n2:Int)]) (.agg #[.bool t,.int .i64 (n3:Int),.int .i64 (n4:Int)])).run Tryz.prog W = .ok (s == t && decide (n1 = n3) && decide (n2 = n4)) W:=by
 have hs:Tryz.prog.stoodInHeld 131 = false:=by kernel_rfl
 rw [show (10000:Nat) = 9999+1 from rfl,run_equalIn_struct W 9999 _ _ _ shape_under hs]
 by_cases h1:s = t
 ·by_cases h2:n1 = n3
  ·by_cases h3:n2 = n4
   ·simp [go_sem,Op.eqFields,h1,h2,h3]
   ·simp [go_sem,Op.eqFields,h1,h2,h3]
    omega
  ·simp [go_sem,Op.eqFields,h1,h2]
   intro hh
   omega
 ·simp [go_sem,Op.eqFields,h1]
theorem shapeOf_any (s:Bool) (a:Option Addr) (n cap:Nat) (a':Option Addr) (n' cap':Nat) (w:World)  :
  Calls Tryz.prog 80 #[.agg #[.bool s,.slice a n cap,.slice a' n' cap']] w fun e w'=>e = .returned (.agg #[.bool s,.int .i64 (n:Int),.int .i64 (n':Int)])∧Below w.heap.size w w':=by
 go_enter Tryz.func80,Tryz.ntmps80
 go_wp2
 exact bodyPost_ret (v:=.agg #[.bool s,.int .i64 (n:Int),.int .i64 (n':Int)]) (by simp [results,Tryz.results80,go_sem]) rfl ⟨rfl,(Fs.two w _ _ _ _).fr⟩
end Go.Proofs.YtaidedkpfnidpaaGreatDoor
