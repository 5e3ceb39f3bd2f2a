/- Of what DecShiftsRow stands on: DcRep DcTold DcDiff DcRow DcPlain. -/
import Derived.Test.YtdbmdhfjmdlihaaDoorPbi
import Derived.Test.YtdbmdhfjmdlihaaDoorPaw
import Derived.Lib.MakeNoZero
import Derived.Laws.CopyRow
import Derived.Shelf.Bits.Mul64
import Derived.Test.YtdbmdhfjmdlihaaDoorPal
import Derived.Test.YtdbmdhfjmdlihaaDoorPab
namespace Go.Proofs.YtdbmdhfjmdlihaaDoor
open Go.RowKit Go.Shelf
open Go.RowKit
set_option maxHeartbeats 4000000
set_option maxRecDepth 20000
def mulRen:Ren where
 f:=fun _=>42
 t:=fun k=>match k with
  | 46=>55
  | 53=>53
  | _=>0
 g:=fun _=>0
theorem mul_lays:Lays.n264 Tryd.prog mulRen:=by
 constructor <;> first|kernel_rfl|(intro w; kernel_rfl)
theorem bmul_one (n:Nat) (hn:n < 18446744073709551616) (w:World) :
  Calls Tryd.prog 33 #[.int .u64 1,.int .u64 (n:Int)] w fun e w'=>e = .returned (.tuple #[.int .u64 0,.int .u64 (n:Int)])∧w' = w:=by
 have h:=Any.bits_Mul64 mul_lays 1 n (by decide) hn w
 rw [Nat.one_mul,Nat.div_eq_of_lt hn,Nat.mod_eq_of_lt hn] at h
 go_enter Tryd.func33,Tryd.ntmps33
 go_wp2_with fail
 refine h.mono ?_
 rintro e w1 ⟨rfl,rfl⟩
 go_wp2
 go_ret2
 exact ⟨rfl,rfl⟩
def RT (w:World) (B p N:Nat):Prop:=∃ tl:Array Value,w.heap[B]? = some (.cells (bc (List.replicate p 48) ++ tl) 5 (0,0))∧p+tl.size = N
theorem RT.cell {w:World} {B p N:Nat} (h:RT w B p N) (j:Nat) (hj:j < p):w.cell? ⟨B,j,none⟩ = some (.int .u8 48):=by
 obtain ⟨tl,h,_⟩:=h
 have:=BT.cell ⟨tl,h⟩ j (by simpa using hj)
 rw [List.getElem?_replicate,if_pos hj] at this
 exact this
theorem rep_row (p m:Nat) (tl:Array Value):((bc (List.replicate p 48) ++ tl).toList.take p ++ List.replicate m (Value.int .u8 48) ++ (bc (List.replicate p 48) ++ tl).toList.drop (p+m)).toArray = bc (List.replicate (p+m) 48) ++ (tl.toList.drop m).toArray:=by
 have hc:∀ q,(bc (List.replicate q 48)).toList = List.replicate q (Value.int .u8 48):=fun q=>by
  unfold bc; rw [List.map_replicate]; rfl
 apply Array.toList_inj.1
 rw [Array.toList_append,Array.toList_append,hc,hc]
 show List.take p (List.replicate p (Value.int .u8 48) ++ tl.toList) ++ List.replicate m (Value.int .u8 48) ++ List.drop (p+m) (List.replicate p (Value.int .u8 48) ++ tl.toList) = List.replicate (p+m) (Value.int .u8 48) ++ tl.toList.drop m
 rw [List.take_left' (by simp),List.drop_append,List.drop_eq_nil_of_le (by simp),List.nil_append,List.length_replicate,Nat.add_sub_cancel_left,List.replicate_append_replicate]
theorem rt_copy {w:World} {B p N:Nat} (h:RT w B p N) (n k:Nat) (S:Nat) (dc sc:Nat) (hk:∀ j,j < k→w.cell? ⟨S,j,none⟩ = some (.int .u8 48)) (hp:p≤n) (hN:n≤N) :
  ∃ w2,(Builtin.copy_ #[36,36] 3 #[.slice (some ⟨B,p,none⟩) (n - p) dc,.slice (some ⟨S,0,none⟩) k sc]).run Tryd.prog w = .ok (.int .i64 ((min k (n - p):Nat):Int)) w2∧RT w2 B (p+min k (n - p)) N∧Only B w w2:=by
 obtain ⟨tl,h,hl⟩:=h
 obtain ⟨m,hm⟩:∃ m,m = min k (n - p):=⟨_,rfl⟩
 have hs:(Tryd.prog.info? 5).map (·.size) = some 1:=by kernel_rfl
 have hrun:=run_copy_row (P:=Tryd.prog) w 36 36 3 5 B p (n - p) dc ⟨S,0,none⟩ k sc _ 5 (List.replicate m (.int .u8 48)) Tryd.under_bytes hs h (by rw [List.length_replicate]; exact hm)
  (fun j v hj=>by
   rw [List.getElem?_replicate] at hj
   by_cases hjm:j < m
   ·rw [if_pos hjm] at hj
    cases hj
    rw [Addr.add_lit,Nat.zero_add]
    exact hk j (by omega)
   ·rw [if_neg hjm] at hj; cases hj)
  (by rw [List.length_replicate,Array.size_append,size_bc,List.length_replicate]; omega)
  (fun u hu=>by rw [List.eq_of_mem_replicate hu]; rfl)
 rw [List.length_replicate] at hrun
 rw [← hm]
 refine ⟨_,hrun,⟨(tl.toList.drop m).toArray,?_,by simp; omega⟩,(Only.refl B w).setRow _⟩
 rw [setRow_heap _ _ _ _ _ _ h,rep_row]
theorem step_copyB {ops:Array Oper} {o:Oper} {a:Act} {w w':World} {K:Act→World→Prop} {Q:Exit→Act→World→Prop} {E:Prop} {v:Value} (hg:o.guard = none) (d x:Operand) (hop:o.op = .call { callee:=.builtin .copy,args:=#[d,x],argTypes:=#[36,36] }) (hty:o.type = 3)
  (hrun:(Builtin.copy_ #[36,36] 3 #[a.eval d,a.eval x]).run Tryd.prog w = .ok v w') (hK:K (a.put o.dst v) w'):if Region.wanted o (yielded ops a.tmps) = true then Oper.wp Tryd.prog o a w K Q else E:=by
 rw [if_pos (by simp [Region.wanted,hg])]
 unfold Oper.wp execOp
 simp only [hop,hty,resolve,invoke,builtin,Sem.run_bind,Sem.run_pure,Result.andThen_ok,List.map_toArray,List.map_cons,List.map_nil,hrun]
 exact hK
theorem step_copyC {ops:Array Oper} {o:Oper} {a:Act} {w w':World} {K:Act→World→Prop} {Q:Exit→Act→World→Prop} {E:Prop} {v D X:Value} (hg:o.guard = none) (d x:Operand) (hop:o.op = .call { callee:=.builtin .copy,args:=#[d,x],argTypes:=#[36,36] }) (hty:o.type = 3)
  (hrun:(Builtin.copy_ #[36,36] 3 #[D,X]).run Tryd.prog w = .ok v w') (hd:a.eval d = D) (hx:a.eval x = X) (hK:K (a.put o.dst v) w'):if Region.wanted o (yielded ops a.tmps) = true then Oper.wp Tryd.prog o a w K Q else E:=
 step_copyB hg d x hop hty (by rw [hd,hx]; exact hrun) hK
theorem RT.drew {w:World} {B p N:Nat} (h:RT w B p N):RT w.drew B p N:=h
theorem repeat_any (S n:Nat) (hn0:1≤n) (hn:n≤65537) (w:World) (hs:w.cell? ⟨S,0,none⟩ = some (.int .u8 48)) (hS:S < w.heap.size) :
  Calls Tryd.prog 27 #[.slice (some ⟨S,0,none⟩) 1 1,.int .i64 (n:Int)] w fun e w'=>e = .returned (.slice (some ⟨w.heap.size,0,none⟩) n n)∧BT w' w.heap.size (List.replicate n 48)∧Below w.heap.size w w':=by
 obtain ⟨cs,hrunM,hle,_⟩:=Lib.run_makeNoZero (P:=Tryd.prog) w #[3] 36 5 Tryd.under_bytes n (by omega)
 have hcall:(callFunc 34 #[.int .i64 (n:Int)]).run Tryd.prog w = .ok (.value (.slice (some ⟨w.heap.size,0,none⟩) n cs.size)) (w.drew.drew.alloc (.cells cs 5)):=by
  rw [run_callFunc_extern Tryd.func34 (by kernel_rfl) (by kernel_rfl) (by kernel_rfl) (e:=Extern.BytealgMakeNoZero.makeNoZero #[3] #[36]) (by kernel_rfl),hrunM]
  rfl
 clear hrunM
 obtain ⟨W1,hW1⟩:∃ W1,W1 = w.drew.drew.alloc (.cells cs 5):=⟨_,rfl⟩
 rw [← hW1] at hcall
 have hR0:RT W1 w.heap.size 0 cs.size:=⟨cs,by rw [hW1]; have:=heap_alloc_new w.drew.drew (.cells cs 5); simpa [bc] using this,by omega⟩
 have hB1:Below w.heap.size w W1:=by rw [hW1]; exact gr_trans (gr_drew (gr_drew (Below.refl _ w))) (gr_alloc w.drew.drew _)
 clear hW1
 have hsrc:∀ j,j < 1→W1.cell? ⟨S,j,none⟩ = some (.int .u8 48):=by
  intro j hj
  obtain rfl:j = 0:=by omega
  rw [hB1.cell (by exact hS)]
  exact hs
 obtain ⟨W2,hcp,hR2,hO2⟩:=rt_copy hR0 n 1 S n 1 hsrc (Nat.zero_le _) hle
 rw [show min 1 (n - 0) = 1 from by omega,Nat.sub_zero] at hcp
 rw [show 0+min 1 (n - 0) = 1 from by omega] at hR2
 have hB2:Below w.heap.size w W2:=Only.below hB1 hO2 (Nat.le_refl _)
 have HS:=hide (And.intro hR2 hB2)
 clear hO2 hR0 hB1 hsrc hR2 hB2 hs hS
 have hni:(n:Int)≤(cs.size:Int):=by omega
 have hni0:¬ (n:Int) = 0:=by omega
 go_enter Tryd.func27,Tryd.ntmps27
 by_cases hbig:8192 < n
 ·have hbigi:(8192:Int) < (n:Int):=by omega
  go_wp2_with fail
  refine (bmul_one n (by omega) _).mono ?_
  rintro e w1 ⟨rfl,hw1⟩
  rw [hw1]
  clear hw1 w1
  go_wp2
  clear hcp hcall
  go_loopw [10] (fun i wr=>∃ p:Nat,1≤p∧p≤n∧i = .int .i64 (p:Int)∧Hid (RT wr w.heap.size p cs.size∧Below w.heap.size w wr)) (fun i _=>n - (intOf i).toNat)
  case atStart=>exact ⟨1,by omega,by omega,rfl,HS⟩
  case round=>
   obtain ⟨p,hp1,hpn,rfl,HR⟩:=hrel
   clear HS
   by_cases hlt:p < n
   ·have hlti:(p:Int) < (n:Int):=by omega
    obtain ⟨k,hk⟩:∃ k:Nat,k = min p 8192:=⟨_,rfl⟩
    have hmin:min (p:Int) 8192 = (k:Int):=by omega
    have hkp:k≤p:=by omega
    have hk1:1≤k:=by omega
    have hki:(k:Int)≤(n:Int):=by omega
    clear hk
    obtain ⟨W3,hcp3,hR3,hO3⟩:=rt_copy (unhide HR).1.drew n k w.heap.size (n - p) n (fun j hj=>(unhide HR).1.drew.cell j (by omega)) hpn hle
    obtain ⟨m,hm⟩:∃ m,m = min k (n - p):=⟨_,rfl⟩
    rw [← hm] at hcp3 hR3
    have hm1:1≤m:=by omega
    have hmp:p+m≤n:=by omega
    have HR3:=hide (And.intro hR3 (Only.below (unhide HR).2.drew hO3 (Nat.le_refl _)))
    clear hR3 hO3 HR hm
    go_wp2_with fail
    have hnp:¬ n = p:=by omega
    go_region_law (refine step_copyC rfl (.tmp 70) (.tmp 73) rfl rfl hcp3 (by go_simp <;> omega) (by go_simp) ?_)
    clear hcp3
    have hmpi:(p:Int)+(m:Int)≤(n:Int):=by omega
    have hw:IntKind.wrap .i64 ((p:Int)+(m:Int)) = (p:Int)+(m:Int):=by rw [IntKind.wrap_i64]; omega
    go_simp
    refine ⟨⟨_,_,_,_,_,_,_,_,_,_,_,_,_,_,_,_,_,⟨p+m,by omega,hmp,?_,HR3⟩,rfl⟩,?_⟩
    ·exact congrArg (Value.int .i64) (by omega)
    ·simp [intOf]; omega
   ·obtain rfl:p = n:=by omega
    have HR2:=HR
    go_wp2
    go_ret
    obtain ⟨⟨tl,h1,_⟩,h2⟩:=unhide HR2
    exact ⟨rfl,⟨tl,h1⟩,h2⟩
 ·have hbigi:(n:Int)≤8192:=by omega
  go_wp2_with fail
  refine (bmul_one n (by omega) _).mono ?_
  rintro e w1 ⟨rfl,hw1⟩
  rw [hw1]
  clear hw1 w1
  go_wp2
  clear hcp hcall
  go_loopw [10] (fun i wr=>∃ p:Nat,1≤p∧p≤n∧i = .int .i64 (p:Int)∧Hid (RT wr w.heap.size p cs.size∧Below w.heap.size w wr)) (fun i _=>n - (intOf i).toNat)
  case atStart=>exact ⟨1,by omega,by omega,rfl,HS⟩
  case round=>
   obtain ⟨p,hp1,hpn,rfl,HR⟩:=hrel
   clear HS
   by_cases hlt:p < n
   ·have hlti:(p:Int) < (n:Int):=by omega
    obtain ⟨k,hk⟩:∃ k:Nat,k = min p n:=⟨_,rfl⟩
    have hmin:min (p:Int) (n:Int) = (k:Int):=by omega
    have hkp:k≤p:=by omega
    have hk1:1≤k:=by omega
    have hki:(k:Int)≤(n:Int):=by omega
    clear hk
    obtain ⟨W3,hcp3,hR3,hO3⟩:=rt_copy (unhide HR).1.drew n k w.heap.size (n - p) n (fun j hj=>(unhide HR).1.drew.cell j (by omega)) hpn hle
    obtain ⟨m,hm⟩:∃ m,m = min k (n - p):=⟨_,rfl⟩
    rw [← hm] at hcp3 hR3
    have hm1:1≤m:=by omega
    have hmp:p+m≤n:=by omega
    have HR3:=hide (And.intro hR3 (Only.below (unhide HR).2.drew hO3 (Nat.le_refl _)))
    clear hR3 hO3 HR hm
    go_wp2_with fail
    have hnp:¬ n = p:=by omega
    go_region_law (refine step_copyC rfl (.tmp 70) (.tmp 73) rfl rfl hcp3 (by go_simp <;> omega) (by go_simp) ?_)
    clear hcp3
    have hmpi:(p:Int)+(m:Int)≤(n:Int):=by omega
    have hw:IntKind.wrap .i64 ((p:Int)+(m:Int)) = (p:Int)+(m:Int):=by rw [IntKind.wrap_i64]; omega
    go_simp
    refine ⟨⟨_,_,_,_,_,_,_,_,_,_,_,_,_,_,_,_,_,⟨p+m,by omega,hmp,?_,HR3⟩,rfl⟩,?_⟩
    ·exact congrArg (Value.int .i64) (by omega)
    ·simp [intOf]; omega
   ·obtain rfl:p = n:=by omega
    have HR2:=HR
    go_wp2
    go_ret
    obtain ⟨⟨tl,h1,_⟩,h2⟩:=unhide HR2
    exact ⟨rfl,⟨tl,h1⟩,h2⟩
theorem noughts_any (n:Nat) (hn0:1≤n) (hn:n≤65537) (w:World) :
  Calls Tryd.prog 13 #[.int .i64 (n:Int)] w fun e w'=>e = .returned (.slice (some ⟨w.heap.size+1,0,none⟩) n n)∧BT w' (w.heap.size+1) (List.replicate n 48)∧Below w.heap.size w w':=by
 go_enter Tryd.func13,Tryd.ntmps13
 go_wp2_with fail
 have hc:(w.alloc (.cells #[.int .u8 48] 5)).cell? ⟨w.heap.size,0,none⟩ = some (.int .u8 48):=by
  rw [cell_of_row _ _ _ _ _ _ (heap_alloc_new w _)]; rfl
 refine (repeat_any w.heap.size n hn0 hn _ hc (by simp)).mono ?_
 rw [World.size_alloc]
 rintro e w1 ⟨rfl,hT,hb⟩
 have HT:=hide (And.intro hT (gr_trans (gr_alloc w _) (by rw [World.size_alloc]; exact hb)))
 clear hT hb hc
 go_wp2
 go_ret
 exact ⟨rfl,(unhide HT).1,(unhide HT).2⟩
theorem step_copyS {ops:Array Oper} {o:Oper} {a:Act} {w w':World} {K:Act→World→Prop} {Q:Exit→Act→World→Prop} {E:Prop} {v D X:Value} (hg:o.guard = none) (d x:Operand) (hop:o.op = .call { callee:=.builtin .copy,args:=#[d,x],argTypes:=#[36,9] }) (hty:o.type = 3)
  (hrun:(Builtin.copy_ #[36,9] 3 #[D,X]).run Tryd.prog w = .ok v w') (hd:a.eval d = D) (hx:a.eval x = X) (hK:K (a.put o.dst v) w'):if Region.wanted o (yielded ops a.tmps) = true then Oper.wp Tryd.prog o a w K Q else E:=
 step_copy hg d x hop hty (by rw [hd,hx]; exact hrun) hK
theorem BT.cells {w:World} {b:Nat} {cs:Array Value} {t:TypeId} {B:Nat} {zs:List Nat} (h:BT w B zs) (hb:w.heap[b]? = some (.cells cs t (0,0))) (ht:t≠5):b≠B:=by
 rintro rfl
 obtain ⟨tl,h⟩:=h
 rw [h] at hb
 injection hb with hb
 injection hb with h1 h2
 exact ht h2.symm
def BU (w:World) (B:Nat) (l:List UInt8):Prop:=BT w B (l.map UInt8.toNat)
theorem bu_noughts {w:World} {B n:Nat} (h:BT w B (List.replicate n 48)):BU w B (List.replicate n 48):=by
 unfold BU; rw [List.map_replicate]; exact h
theorem bc_cells (l:List UInt8):(bc (l.map UInt8.toNat)).toList = Lib.byteCells l:=by
 unfold bc Lib.byteCells
 rw [List.toList_toArray,List.map_map]; rfl
theorem cells_app (l r:List UInt8):Lib.byteCells (l ++ r) = Lib.byteCells l ++ Lib.byteCells r:=by unfold Lib.byteCells; rw [List.map_append]
theorem cells_take (l:List UInt8) (k:Nat):Lib.byteCells (l.take k) = (Lib.byteCells l).take k:=by unfold Lib.byteCells; rw [List.map_take]
theorem cells_drop (l:List UInt8) (k:Nat):Lib.byteCells (l.drop k) = (Lib.byteCells l).drop k:=by unfold Lib.byteCells; rw [List.map_drop]
theorem cells_len (l:List UInt8):(Lib.byteCells l).length = l.length:=by unfold Lib.byteCells; rw [List.length_map]
theorem bu_row (l:List UInt8) (s:ByteArray) (o:Nat) (tl:Array Value) (hle:o+s.size≤l.length) :
  ((bc (l.map UInt8.toNat) ++ tl).toList.take o ++ Lib.byteCells s.data.toList ++ (bc (l.map UInt8.toNat) ++ tl).toList.drop (o+s.size)).toArray = bc ((l.take o ++ s.data.toList ++ l.drop (o+s.size)).map UInt8.toNat) ++ tl:=by
 apply Array.toList_inj.1
 rw [List.toList_toArray,Array.toList_append,Array.toList_append,bc_cells,bc_cells,cells_app,cells_app,cells_take,cells_drop]
 rw [List.take_append_of_le_length (by rw [cells_len]; omega),List.drop_append_of_le_length (by rw [cells_len]; omega)]
 simp only [List.append_assoc]
theorem bu_copy {w:World} {B:Nat} {l:List UInt8} (h:BU w B l) (s:ByteArray) (o n cap:Nat) (hn:o+n = l.length) (hle:s.size≤n) :
  ∃ W',(Builtin.copy_ #[36,9] 3 #[.slice (some ⟨B,o,none⟩) n cap,.string s]).run Tryd.prog w = .ok (.int .i64 (s.size:Int)) W'∧BU W' B (l.take o ++ s.data.toList ++ l.drop (o+s.size))∧Only B w W':=by
 obtain ⟨tl,h⟩:=h
 have hr:=Lib.run_copy_row_string w 36 9 3 5 B o n cap s (bc (l.map UInt8.toNat) ++ tl) 5 Tryd.under_bytes (by kernel_rfl) h hle (by rw [Array.size_append,size_bc,List.length_map]; omega)
 rw [bu_row l s o tl (by omega)] at hr
 exact ⟨_,hr,⟨tl,setRow_heap _ _ _ _ _ _ h⟩,(Only.refl B w).setRow _⟩
theorem bu_set {w:World} {B:Nat} {l:List UInt8} (h:BU w B l) (j:Nat) (v:UInt8) (hj:j < l.length):BU (w.setCell ⟨B,j,none⟩ (.int .u8 (v.toNat:Int))) B (l.set j v):=by
 have:=BT.set h j v.toNat (by rw [List.length_map]; exact hj)
 unfold BU
 rw [List.map_set]
 exact this
theorem bu_next {w:World} {B:Nat} {u:List UInt8} {s:ByteArray} {k:Nat} (h:BU w B (u ++ List.replicate (s.size+k) 48)) (o n cap:Nat) (hu:u.length = o) (hn:s.size+k = n) :
  ∃ W',(Builtin.copy_ #[36,9] 3 #[.slice (some ⟨B,o,none⟩) n cap,.string s]).run Tryd.prog w = .ok (.int .i64 (s.size:Int)) W'∧BU W' B ((u ++ s.data.toList) ++ List.replicate k 48)∧Only B w W':=by
 obtain ⟨W',h1,h2,h3⟩:=bu_copy h s o n cap (by rw [List.length_append,List.length_replicate]; omega) (by omega)
 refine ⟨W',h1,?_,h3⟩
 have e:List.take o (u ++ List.replicate (s.size+k) (48:UInt8)) ++ s.data.toList ++ List.drop (o+s.size) (u ++ List.replicate (s.size+k) 48) = (u ++ s.data.toList) ++ List.replicate k 48:=by
  rw [← hu,List.take_left,List.drop_append,List.drop_eq_nil_of_le (by omega),List.nil_append,List.drop_replicate,show s.size+k - (u.length+s.size - u.length) = k by omega]
 rw [e] at h2
 exact h2
theorem bu_point {w:World} {B:Nat} {u:List UInt8} {k:Nat} (h:BU w B (u ++ List.replicate (1+k) 48)) (o:Nat) (hu:u.length = o) (v:UInt8):BU (w.setCell ⟨B,o,none⟩ (.int .u8 (v.toNat:Int))) B ((u ++ [v]) ++ List.replicate k 48):=by
 have h1:=bu_set h o v (by rw [List.length_append,List.length_replicate]; omega)
 have e:(u ++ List.replicate (1+k) 48).set o v = (u ++ [v]) ++ List.replicate k 48:=by
  rw [← hu,List.set_append_right _ _ (Nat.le_refl _),Nat.sub_self,Nat.add_comm 1 k,List.replicate_succ,List.set_cons_zero,List.append_assoc,List.singleton_append]
 rw [e] at h1
 exact h1
theorem Fs.only {w0 W W':World} {bs:List En} {B:Nat} (h:Fs w0 W bs) (k:Only B W W') (hB:w0.heap.size≤B) (hne:∀ x,x∈bs→x.b≠B):Fs w0 W' bs:=
 ⟨fun x hx=>by rw [k.block _ (hne x hx)]; exact h.bx x hx,Only.below h.fr k hB⟩
theorem bu_text {w:World} {B:Nat} {l:List UInt8} (h:BU w B l) (n cap:Nat) (hn:l.length = n):(convert 36 9 (.slice (some ⟨B,0,none⟩) n cap)).run Tryd.prog w = .ok (.string ⟨l.toArray⟩) w:=by
 rw [← hn]
 refine run_convert_bytes_back w 36 9 5 ⟨B,0,none⟩ _ _ Tryd.under_bytes Tryd.under_byte Tryd.under_string ?_
 intro j hj
 rw [Addr.add_lit,Nat.zero_add,BT.cell h j (by rw [List.length_map]; exact hj),List.getElem?_map,List.getElem?_eq_getElem hj]
 rfl
theorem dpl_pos (g:Bool) (s:ByteArray) (x:Int) (sg dg:ByteArray) (a m n:Nat) (w:World) (hx0:0≤x) (hx1:x≤65536) (hsg:sg.size = a) (ha:a≤1) (hd1:1≤dg.size) (hdm:dg.size≤65536) (hm:(dg.size:Int)+x = (m:Int)) (hn:a+m = n) (hn2:n≤65536) (st:ByteArray) (hst:Hid ((⟨(sg.data.toList ++ dg.data.toList ++ List.replicate x.toNat 48).toArray⟩:ByteArray) = st))
  (HC:Hid (∀ W:World,Calls Tryd.prog 11 #[.agg #[.bool g,.string s,.int .i64 x]] W fun e W'=>e = .returned (.int .i64 0)∧Below W.heap.size W W'))
  (HS:Hid (∀ W:World,Calls Tryd.prog 12 #[.agg #[.bool g,.string s,.int .i64 x]] W fun e W'=>e = .returned (.tuple #[.string sg,.string dg])∧Below W.heap.size W W')) :
  Calls Tryd.prog 4 #[.agg #[.bool g,.string s,.int .i64 x]] w fun e w'=>e = .returned (.tuple #[.string st,.int .i64 0])∧Below w.heap.size w w':=by
 have hw1:IntKind.wrap .i64 ((dg.size:Int)+x) = (m:Int):=by rw [IntKind.wrap_i64]; omega
 have hmax:max (m:Int) 1 = (m:Int):=by omega
 have hw2:IntKind.wrap .i64 ((a:Int)+(m:Int)) = (n:Int):=by rw [IntKind.wrap_i64]; omega
 have hbig:¬ (65536:Int) < (n:Int):=by omega
 have hneg:¬ x < 0:=by omega
 have hsgi:(sg.size:Int) = (a:Int):=by omega
 go_enter Tryd.func4,Tryd.ntmps4
 go_wp2_with fail
 refine (unhide HC _).mono ?_
 rintro e w1 ⟨rfl,hb1⟩
 have hS:=(Fs.one w _ _).kept hb1
 clear hb1
 obtain ⟨⟨z1,z2,z3,-⟩,-⟩:=hS.cells
 go_wp2_with fail
 refine (unhide HS _).mono ?_
 rintro e w2 ⟨rfl,hb2⟩
 replace hS:=hS.kept hb2
 clear hb2 z1 z2 z3
 obtain ⟨⟨z1,z2,z3,-⟩,-⟩:=hS.cells
 go_wp2_with fail
 refine (noughts_any n (by omega) (by omega) w2).mono ?_
 rintro e w3 ⟨rfl,hT,hb3⟩
 obtain ⟨B,hB⟩:∃ B,w2.heap.size+1 = B:=⟨_,rfl⟩
 rw [hB] at hT
 simp only [hB]
 have hB0:w.heap.size≤B:=by have:=hS.fr.size; omega
 have hBne:w.heap.size≠B:=by
  have h9:w.heap.size < w2.heap.size:=block_lt (hS.bx ⟨w.heap.size,#[.bool g,.string s,.int .i64 x],23⟩ (List.mem_cons_self ..))
  omega
 have hne1:∀ z,z∈[(⟨w.heap.size,#[.bool g,.string s,.int .i64 x],23⟩:En)]→z.b≠B:=fun z hz=>by simp at hz; subst hz; exact hBne
 replace hS:=hS.kept hb3
 obtain ⟨k,hk⟩:∃ k:Nat,x = (k:Int):=⟨x.toNat,by omega⟩
 have hU:BU w3 B ([] ++ List.replicate (sg.size+(dg.size+k)) 48):=by
  rw [List.nil_append,show sg.size+(dg.size+k) = n by omega]
  exact bu_noughts hT
 clear hb3 z1 z2 z3 hT
 obtain ⟨W4,hr4,hU4,hO4⟩:=bu_next hU 0 n n rfl (by omega)
 rw [hsgi] at hr4
 have hS4:=hS.only hO4 hB0 hne1
 obtain ⟨⟨z1,z2,z3,-⟩,-⟩:=hS4.cells
 obtain ⟨W5,hr5,hU5,hO5⟩:=bu_next hU4 a (n - a) (n - a) (by rw [List.nil_append,Array.length_toList]; exact hsg) (by omega)
 have hS5:=hS4.only hO5 hB0 hne1
 rw [List.nil_append] at hU5
 have hkx:k = x.toNat:=by omega
 rw [hkx] at hU5
 have hl5:(sg.data.toList ++ dg.data.toList ++ List.replicate x.toNat 48).length = n:=by
  rw [List.length_append,List.length_append,Array.length_toList,Array.length_toList,List.length_replicate]
  show sg.size+dg.size+x.toNat = n
  omega
 have hcv:=bu_text hU5 n n hl5
 rw [unhide hst] at hcv
 have han:(a:Int)≤(n:Int):=by omega
 have hane:¬ n = a:=by omega
 have HF:=hide hS5.fr
 clear hU5 hl5 hU4 hU hO4 hO5 hS hS4 hS5 hk hkx
 go_wp2
 go_ret2
 exact ⟨rfl,unhide HF⟩
theorem dpl_in (g:Bool) (s:ByteArray) (x:Int) (sg dg:ByteArray) (a n:Nat) (m j:Nat) (o r:ByteArray) (K:Nat) (hm:(dg.size:Int)+x = (m:Int)) (hm1:1≤m) (hj:x = -(j:Int)) (hn:a+m+1+j = n) (hK:K = 1+j) (ho:dg.extract 0 m = o) (hr:dg.extract m dg.size = r) (w:World) (hx0:x < 0) (hx1:-65536≤x) (hsg:sg.size = a) (ha:a≤1) (hd1:1≤dg.size) (hdm:dg.size≤65536) (hn2:n≤65536) (st:ByteArray) (hst:Hid ((⟨(sg.data.toList ++ o.data.toList ++ [46] ++ r.data.toList).toArray⟩:ByteArray) = st))
  (HC:Hid (∀ W:World,Calls Tryd.prog 11 #[.agg #[.bool g,.string s,.int .i64 x]] W fun e W'=>e = .returned (.int .i64 0)∧Below W.heap.size W W'))
  (HS:Hid (∀ W:World,Calls Tryd.prog 12 #[.agg #[.bool g,.string s,.int .i64 x]] W fun e W'=>e = .returned (.tuple #[.string sg,.string dg])∧Below W.heap.size W W')) :
  Calls Tryd.prog 4 #[.agg #[.bool g,.string s,.int .i64 x]] w fun e w'=>e = .returned (.tuple #[.string st,.int .i64 0])∧Below w.heap.size w w':=by
 have hos:o.size = m:=by rw [← ho,ByteArray.size_extract]; omega
 have hrs:r.size = j:=by rw [← hr,ByteArray.size_extract]; omega
 have hw1:IntKind.wrap .i64 ((dg.size:Int)+x) = (m:Int):=by rw [IntKind.wrap_i64]; omega
 have hmax:max (m:Int) 1 = (m:Int):=by omega
 have hmax0:max (m:Int) 0 = (m:Int):=by omega
 obtain ⟨P,hP⟩:∃ P:Nat,P = a+m:=⟨_,rfl⟩
 obtain ⟨J,hJ⟩:∃ J:Nat,J = 1+j:=⟨_,rfl⟩
 have hw2:IntKind.wrap .i64 ((a:Int)+(m:Int)) = (P:Int):=by rw [IntKind.wrap_i64]; omega
 have hw3:IntKind.wrap .i64 (1 - x) = (J:Int):=by rw [IntKind.wrap_i64]; omega
 have hw4:IntKind.wrap .i64 ((P:Int)+(J:Int)) = (n:Int):=by rw [IntKind.wrap_i64]; omega
 have hKn:sg.size+(o.size+K) = n:=by omega
 have hn0:1≤n:=by omega
 have han:(a:Int)≤(n:Int):=by omega
 have hane:¬ n = a:=by omega
 have HJ:=hide (And.intro hj (And.intro hm (And.intro hn (And.intro hK (And.intro hP hJ)))))
 clear hj hm hn hK hP hJ
 have hbig:¬ (65536:Int) < (n:Int):=by omega
 have hnn:¬ 0≤x:=by omega
 have hsgi:(sg.size:Int) = (a:Int):=by omega
 go_enter Tryd.func4,Tryd.ntmps4
 go_wp2_with fail
 refine (unhide HC _).mono ?_
 rintro e w1 ⟨rfl,hb1⟩
 have hS:=(Fs.one w _ _).kept hb1
 clear hb1
 obtain ⟨⟨z1,z2,z3,-⟩,-⟩:=hS.cells
 go_wp2_with fail
 refine (unhide HS _).mono ?_
 rintro e w2 ⟨rfl,hb2⟩
 replace hS:=hS.kept hb2
 clear hb2 z1 z2 z3
 obtain ⟨⟨z1,z2,z3,-⟩,-⟩:=hS.cells
 go_wp2_with fail
 refine (noughts_any n hn0 (by omega) w2).mono ?_
 rintro e w3 ⟨rfl,hT,hb3⟩
 obtain ⟨B,hB⟩:∃ B,w2.heap.size+1 = B:=⟨_,rfl⟩
 rw [hB] at hT
 simp only [hB]
 have hB0:w.heap.size≤B:=by have:=hS.fr.size; omega
 have hBne:w.heap.size≠B:=by
  have h9:w.heap.size < w2.heap.size:=block_lt (hS.bx ⟨w.heap.size,#[.bool g,.string s,.int .i64 x],23⟩ (List.mem_cons_self ..))
  omega
 have hne1:∀ z,z∈[(⟨w.heap.size,#[.bool g,.string s,.int .i64 x],23⟩:En)]→z.b≠B:=fun z hz=>by simp at hz; subst hz; exact hBne
 replace hS:=hS.kept hb3
 have hU:BU w3 B ([] ++ List.replicate (sg.size+(o.size+K)) 48):=by
  rw [List.nil_append,hKn]
  exact bu_noughts hT
 clear hb3 z1 z2 z3 hT
 obtain ⟨W4,hr4,hU4,hO4⟩:=bu_next hU 0 n n rfl hKn
 rw [hsgi] at hr4
 have hS4:=hS.only hO4 hB0 hne1
 obtain ⟨⟨z1,z2,z3,-⟩,-⟩:=hS4.cells
 clear hS hU hO4
 go_wp2_with fail
 obtain ⟨W5,hr5,hU5,hO5⟩:=bu_next (w:=W4.drew) hU4 a (n - a) (n - a) (by rw [List.nil_append,Array.length_toList]; exact hsg) (by omega)
 rw [List.nil_append] at hU5
 have hS5:=hS4.drew.only hO5 hB0 hne1
 clear z1 z2 z3 hS4 hO5
 have hmd:(m:Int)≤(dg.size:Int):=by obtain ⟨h1,h2,_⟩:=unhide HJ; omega
 go_region_law (refine step_copyS rfl (.tmp 65) (.tmp 68) rfl rfl hr5 (by go_simp <;> omega) (by go_simp) ?_)
 have hPn:(P:Int) < (n:Int):=by obtain ⟨h1,h2,h3,h4,h5,h6⟩:=unhide HJ; omega
 have hul:(sg.data.toList ++ o.data.toList).length = P:=by
  obtain ⟨h1,h2,h3,h4,h5,h6⟩:=unhide HJ
  rw [List.length_append,Array.length_toList,Array.length_toList]
  show sg.size+o.size = P
  omega
 have hK1:K = 1+j:=by obtain ⟨h1,h2,h3,h4,h5,h6⟩:=unhide HJ; omega
 rw [hK1] at hU5
 have hcs:=BT.cell hU5 P (by rw [List.length_map,List.length_append,hul,List.length_replicate]; omega)
 have hfs:=BT.frozen hU5 P
 obtain ⟨W6,hW6⟩:∃ W6,W5.setCell ⟨B,P,none⟩ (.int .u8 46) = W6:=⟨_,rfl⟩
 have hU6:BU W6 B ((sg.data.toList ++ o.data.toList ++ [46]) ++ List.replicate (r.size+0) 48):=by
  rw [← hW6,hrs,Nat.add_zero]
  exact bu_point hU5 P hul 46
 have hS6:Fs w W6 [⟨w.heap.size,#[.bool g,.string s,.int .i64 x],23⟩]:=by
  rw [← hW6]
  exact hS5.only ((Only.refl B W5).setCell P _) hB0 hne1
 obtain ⟨q,hq⟩:∃ q:Nat,q = P+1:=⟨_,rfl⟩
 have hul2:(sg.data.toList ++ o.data.toList ++ [46]).length = q:=by rw [List.length_append,hul,hq]; rfl
 have hqn:(q:Int)≤(n:Int)∧¬ n = q∧IntKind.wrap .i64 ((n:Int) - (j:Int)) = (q:Int)∧r.size+0 = n - q:=by
  obtain ⟨h1,h2,h3,h4,h5,h6⟩:=unhide HJ
  rw [IntKind.wrap_i64]
  omega
 obtain ⟨hq1,hq2,hw5,hq3⟩:=hqn
 have hl6:(sg.data.toList ++ o.data.toList ++ [46] ++ r.data.toList ++ List.replicate 0 48).length = n:=by
  rw [List.replicate_zero,List.append_nil,List.length_append,hul2,Array.length_toList]
  show q+r.size = n
  omega
 clear hU5 hS5 hul hK1 hq
 go_wp2_with fail
 obtain ⟨W7,hr7,hU7,hO7⟩:=bu_next (w:=W6.drew) hU6 q (n - q) (n - q) hul2 hq3
 have hS7:=hS6.drew.only hO7 hB0 hne1
 clear hU6 hS6 hO7 hW6 hcs hfs
 go_region_law (refine step_copyS rfl (.tmp 82) (.tmp 85) rfl rfl hr7 (by go_simp <;> omega) (by go_simp) ?_)
 have hcv:=bu_text hU7 n n hl6
 rw [List.replicate_zero,List.append_nil,unhide hst] at hcv
 have HF:=hide hS7.fr
 clear hU7 hS7 hl6 hul2 hr7
 go_wp2
 go_ret2
 exact ⟨rfl,unhide HF⟩
theorem dpl_out (g:Bool) (s:ByteArray) (x:Int) (sg dg:ByteArray) (a n:Nat) (j z:Nat) (y:Int) (hy:(dg.size:Int)+x = y) (hy0:y≤0) (hj:x = -(j:Int)) (hz:dg.size+z = j) (hn:a+2+j = n) (w:World) (hx0:x < 0) (hx1:-65536≤x) (hsg:sg.size = a) (ha:a≤1) (hd1:1≤dg.size) (hdm:dg.size≤65536) (hn2:n≤65536) (st:ByteArray) (hst:Hid ((⟨(sg.data.toList ++ [48] ++ [46] ++ List.replicate z 48 ++ dg.data.toList).toArray⟩:ByteArray) = st))
  (HC:Hid (∀ W:World,Calls Tryd.prog 11 #[.agg #[.bool g,.string s,.int .i64 x]] W fun e W'=>e = .returned (.int .i64 0)∧Below W.heap.size W W'))
  (HS:Hid (∀ W:World,Calls Tryd.prog 12 #[.agg #[.bool g,.string s,.int .i64 x]] W fun e W'=>e = .returned (.tuple #[.string sg,.string dg])∧Below W.heap.size W W')) :
  Calls Tryd.prog 4 #[.agg #[.bool g,.string s,.int .i64 x]] w fun e w'=>e = .returned (.tuple #[.string st,.int .i64 0])∧Below w.heap.size w w':=by
 obtain ⟨o,ho⟩:∃ o:ByteArray,o = ⟨#[]⟩:=⟨_,rfl⟩
 have hos:o.size = 0:=by rw [ho]; rfl
 obtain ⟨K,hK⟩:∃ K:Nat,K = 2+j:=⟨_,rfl⟩
 have hw1:IntKind.wrap .i64 ((dg.size:Int)+x) = y:=by rw [IntKind.wrap_i64]; omega
 have hmax:max y 1 = 1:=by omega
 have hmax0:max y 0 = 0:=by omega
 obtain ⟨P,hP⟩:∃ P:Nat,P = a+1:=⟨_,rfl⟩
 obtain ⟨J,hJ⟩:∃ J:Nat,J = 1+j:=⟨_,rfl⟩
 have hw2:IntKind.wrap .i64 ((a:Int)+1) = (P:Int):=by rw [IntKind.wrap_i64]; omega
 have hw3:IntKind.wrap .i64 (1 - x) = (J:Int):=by rw [IntKind.wrap_i64]; omega
 have hw4:IntKind.wrap .i64 ((P:Int)+(J:Int)) = (n:Int):=by rw [IntKind.wrap_i64]; omega
 have hKn:sg.size+(o.size+K) = n:=by omega
 have hn0:1≤n:=by omega
 have han:(a:Int)≤(n:Int):=by omega
 have hane:¬ n = a:=by omega
 have HJ:=hide (And.intro hj (And.intro hz (And.intro hn (And.intro hK (And.intro hP hJ)))))
 clear hj hz hn hK hP hJ hy
 have hbig:¬ (65536:Int) < (n:Int):=by omega
 have hnn:¬ 0≤x:=by omega
 have hsgi:(sg.size:Int) = (a:Int):=by omega
 go_enter Tryd.func4,Tryd.ntmps4
 go_wp2_with fail
 refine (unhide HC _).mono ?_
 rintro e w1 ⟨rfl,hb1⟩
 have hS:=(Fs.one w _ _).kept hb1
 clear hb1
 obtain ⟨⟨z1,z2,z3,-⟩,-⟩:=hS.cells
 go_wp2_with fail
 refine (unhide HS _).mono ?_
 rintro e w2 ⟨rfl,hb2⟩
 replace hS:=hS.kept hb2
 clear hb2 z1 z2 z3
 obtain ⟨⟨z1,z2,z3,-⟩,-⟩:=hS.cells
 go_wp2_with fail
 refine (noughts_any n hn0 (by omega) w2).mono ?_
 rintro e w3 ⟨rfl,hT,hb3⟩
 obtain ⟨B,hB⟩:∃ B,w2.heap.size+1 = B:=⟨_,rfl⟩
 rw [hB] at hT
 simp only [hB]
 have hB0:w.heap.size≤B:=by have:=hS.fr.size; omega
 have hBne:w.heap.size≠B:=by
  have h9:w.heap.size < w2.heap.size:=block_lt (hS.bx ⟨w.heap.size,#[.bool g,.string s,.int .i64 x],23⟩ (List.mem_cons_self ..))
  omega
 have hne1:∀ z,z∈[(⟨w.heap.size,#[.bool g,.string s,.int .i64 x],23⟩:En)]→z.b≠B:=fun z hz=>by simp at hz; subst hz; exact hBne
 replace hS:=hS.kept hb3
 have hU:BU w3 B ([] ++ List.replicate (sg.size+(o.size+K)) 48):=by
  rw [List.nil_append,hKn]
  exact bu_noughts hT
 clear hb3 z1 z2 z3 hT
 obtain ⟨W4,hr4,hU4,hO4⟩:=bu_next hU 0 n n rfl hKn
 rw [hsgi] at hr4
 have hS4:=hS.only hO4 hB0 hne1
 obtain ⟨⟨z1,z2,z3,-⟩,-⟩:=hS4.cells
 clear hS hU hO4
 go_wp2_with fail
 obtain ⟨W5,hr5,hU5,hO5⟩:=bu_next (w:=W4.drew) hU4 a (n - a) (n - a) (by rw [List.nil_append,Array.length_toList]; exact hsg) (by omega)
 rw [List.nil_append] at hU5
 have hS5:=hS4.drew.only hO5 hB0 hne1
 clear z1 z2 z3 hS4 hO5
 rw [ho] at hr5
 go_region_law (refine step_copyS rfl (.tmp 65) (.tmp 68) rfl rfl hr5 (by go_simp <;> omega) (by go_simp; rfl) ?_)
 have hPn:(P:Int) < (n:Int):=by obtain ⟨h1,h2,h3,h4,h5,h6⟩:=unhide HJ; omega
 have hul:(sg.data.toList ++ [48]).length = P:=by
  obtain ⟨h1,h2,h3,h4,h5,h6⟩:=unhide HJ
  rw [List.length_append,Array.length_toList]
  show sg.size+1 = P
  omega
 have hK1:K = 1+(1+j):=by obtain ⟨h1,h2,h3,h4,h5,h6⟩:=unhide HJ; omega
 have hU5b:BU W5 B ((sg.data.toList ++ [48]) ++ List.replicate (1+j) 48):=by
  rw [ho,hK1,Nat.add_comm 1 (1+j),List.replicate_succ] at hU5
  rw [List.append_assoc,List.singleton_append]
  simpa using hU5
 have hcs:=BT.cell hU5b P (by rw [List.length_map,List.length_append,hul,List.length_replicate]; omega)
 have hfs:=BT.frozen hU5b P
 obtain ⟨W6,hW6⟩:∃ W6,W5.setCell ⟨B,P,none⟩ (.int .u8 46) = W6:=⟨_,rfl⟩
 have hjz:j = z+dg.size:=by obtain ⟨h1,h2,h3,h4,h5,h6⟩:=unhide HJ; omega
 have hU6:BU W6 B ((sg.data.toList ++ [48] ++ [46] ++ List.replicate z 48) ++ List.replicate (dg.size+0) 48):=by
  have h9:=bu_point hU5b P hul 46
  rw [hjz,← List.replicate_append_replicate,← List.append_assoc] at h9
  rw [← hW6,Nat.add_zero]
  exact h9
 have hS6:Fs w W6 [⟨w.heap.size,#[.bool g,.string s,.int .i64 x],23⟩]:=by
  rw [← hW6]
  exact hS5.only ((Only.refl B W5).setCell P _) hB0 hne1
 obtain ⟨q,hq⟩:∃ q:Nat,q = P+1+z:=⟨_,rfl⟩
 have hul2:(sg.data.toList ++ [48] ++ [46] ++ List.replicate z 48).length = q:=by rw [List.length_append,List.length_append,hul,hq,List.length_replicate]; rfl
 have hqn:(q:Int)≤(n:Int)∧¬ n = q∧IntKind.wrap .i64 ((n:Int) - (dg.size:Int)) = (q:Int)∧dg.size+0 = n - q:=by
  obtain ⟨h1,h2,h3,h4,h5,h6⟩:=unhide HJ
  rw [IntKind.wrap_i64]
  omega
 obtain ⟨hq1,hq2,hw5,hq3⟩:=hqn
 have hl6:(sg.data.toList ++ [48] ++ [46] ++ List.replicate z 48 ++ dg.data.toList ++ List.replicate 0 48).length = n:=by
  rw [List.replicate_zero,List.append_nil,List.length_append,hul2,Array.length_toList]
  show q+dg.size = n
  omega
 clear hU5 hU5b hS5 hul hK1 hq hjz
 go_wp2_with fail
 obtain ⟨W7,hr7,hU7,hO7⟩:=bu_next (w:=W6.drew) hU6 q (n - q) (n - q) hul2 hq3
 have hS7:=hS6.drew.only hO7 hB0 hne1
 clear hU6 hS6 hO7 hW6 hcs hfs
 go_region_law (refine step_copyS rfl (.tmp 82) (.tmp 85) rfl rfl hr7 (by go_simp <;> omega) (by go_simp) ?_)
 have hcv:=bu_text hU7 n n hl6
 rw [List.replicate_zero,List.append_nil,unhide hst] at hcv
 have HF:=hide hS7.fr
 clear hU7 hS7 hl6 hul2 hr7
 go_wp2
 go_ret2
 exact ⟨rfl,unhide HF⟩
end Go.Proofs.YtdbmdhfjmdlihaaDoor
