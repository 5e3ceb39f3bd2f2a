/- Of what DecBackRow stands on: DcRep DcTold DcDiff DcAdd DcAddBoth DcMulBoth DcCmpV DcRow DcPlain DcPart. -/
import Derived.Test.YtpmmapoabbpaiaaGreatPbg
import Derived.Test.YtpmmapoabbpaiaaGreatPbf
import Derived.Lib.MakeNoZero
import Derived.Laws.CopyRow
import Derived.Shelf.Bits.Mul64
import Derived.Test.YtpmmapoabbpaiaaGreatPak
import Derived.Test.YtpmmapoabbpaiaaGreatPba
import Derived.Test.YtpmmapoabbpaiaaGreatPab
namespace Go.Proofs.YtpmmapoabbpaiaaGreat
open Go.RowKit Go.Shelf
open Go.RowKit
set_option maxHeartbeats 8000000
set_option maxRecDepth 20000
def mulRen:Ren where
 f:=fun _=>138
 t:=fun k=>match k with
  | 46=>113
  | 53=>53
  | _=>0
 g:=fun _=>0
theorem mul_lays:Lays.n264 Tryz.prog mulRen:=by
 constructor <;> first|kernel_rfl|(intro w; kernel_rfl)
theorem bmul_one (n:Nat) (hn:n < 18446744073709551616) (w:World) :
  Calls Tryz.prog 120 #[.int .u64 1,.int .u64 (n:Int)] w fun e w'=>e = .returned (.tuple #[.int .u64 0,.int .u64 (n:Int)])∧w' = w:=by
 have h:=Any.bits_Mul64 mul_lays 1 n (by decide) hn w
 rw [Nat.one_mul,Nat.div_eq_of_lt hn,Nat.mod_eq_of_lt hn] at h
 go_enter Tryz.func120,Tryz.ntmps120
 go_wp2_with fail
 refine h.mono ?_
 rintro e w1 ⟨rfl,rfl⟩
 go_wp2
 go_ret2
 exact ⟨rfl,rfl⟩
def RT (w:World) (B p N:Nat):Prop:=∃ tl:Array Value,w.heap[B]? = some (.cells (bc (List.replicate p 48) ++ tl) 5 (0,0))∧p+tl.size = N
theorem RT.cell {w:World} {B p N:Nat} (h:RT w B p N) (j:Nat) (hj:j < p):w.cell? ⟨B,j,none⟩ = some (.int .u8 48):=by
 obtain ⟨tl,h,_⟩:=h
 have:=BT.cell ⟨tl,h⟩ j (by simpa using hj)
 rw [List.getElem?_replicate,if_pos hj] at this
 exact this
theorem rep_row (p m:Nat) (tl:Array Value):((bc (List.replicate p 48) ++ tl).toList.take p ++ List.replicate m (Value.int .u8 48) ++ (bc (List.replicate p 48) ++ tl).toList.drop (p+m)).toArray = bc (List.replicate (p+m) 48) ++ (tl.toList.drop m).toArray:=by
 have hc:∀ q,(bc (List.replicate q 48)).toList = List.replicate q (Value.int .u8 48):=fun q=>by
  unfold bc; rw [List.map_replicate]; rfl
 apply Array.toList_inj.1
 rw [Array.toList_append,Array.toList_append,hc,hc]
 show List.take p (List.replicate p (Value.int .u8 48) ++ tl.toList) ++ List.replicate m (Value.int .u8 48) ++ List.drop (p+m) (List.replicate p (Value.int .u8 48) ++ tl.toList) = List.replicate (p+m) (Value.int .u8 48) ++ tl.toList.drop m
 rw [List.take_left' (by simp),List.drop_append,List.drop_eq_nil_of_le (by simp),List.nil_append,List.length_replicate,Nat.add_sub_cancel_left,List.replicate_append_replicate]
theorem rt_copy {w:World} {B p N:Nat} (h:RT w B p N) (n k:Nat) (S:Nat) (dc sc:Nat) (hk:∀ j,j < k→w.cell? ⟨S,j,none⟩ = some (.int .u8 48)) (hp:p≤n) (hN:n≤N) :
  ∃ w2,(Builtin.copy_ #[77,77] 3 #[.slice (some ⟨B,p,none⟩) (n - p) dc,.slice (some ⟨S,0,none⟩) k sc]).run Tryz.prog w = .ok (.int .i64 ((min k (n - p):Nat):Int)) w2∧RT w2 B (p+min k (n - p)) N∧Only B w w2:=by
 obtain ⟨tl,h,hl⟩:=h
 obtain ⟨m,hm⟩:∃ m,m = min k (n - p):=⟨_,rfl⟩
 have hs:(Tryz.prog.info? 5).map (·.size) = some 1:=by kernel_rfl
 have hrun:=run_copy_row (P:=Tryz.prog) w 77 77 3 5 B p (n - p) dc ⟨S,0,none⟩ k sc _ 5 (List.replicate m (.int .u8 48)) Tryz.under_bytes hs h (by rw [List.length_replicate]; exact hm)
  (fun j v hj=>by
   rw [List.getElem?_replicate] at hj
   by_cases hjm:j < m
   ·rw [if_pos hjm] at hj
    cases hj
    rw [Addr.add_lit,Nat.zero_add]
    exact hk j (by omega)
   ·rw [if_neg hjm] at hj; cases hj)
  (by rw [List.length_replicate,Array.size_append,size_bc,List.length_replicate]; omega)
  (fun u hu=>by rw [List.eq_of_mem_replicate hu]; rfl)
 rw [List.length_replicate] at hrun
 rw [← hm]
 refine ⟨_,hrun,⟨(tl.toList.drop m).toArray,?_,by simp; omega⟩,(Only.refl B w).setRow _⟩
 rw [setRow_heap _ _ _ _ _ _ h,rep_row]
theorem step_copyB {ops:Array Oper} {o:Oper} {a:Act} {w w':World} {K:Act→World→Prop} {Q:Exit→Act→World→Prop} {E:Prop} {v:Value} (hg:o.guard = none) (d x:Operand) (hop:o.op = .call { callee:=.builtin .copy,args:=#[d,x],argTypes:=#[77,77] }) (hty:o.type = 3)
  (hrun:(Builtin.copy_ #[77,77] 3 #[a.eval d,a.eval x]).run Tryz.prog w = .ok v w') (hK:K (a.put o.dst v) w'):if Region.wanted o (yielded ops a.tmps) = true then Oper.wp Tryz.prog o a w K Q else E:=by
 rw [if_pos (by simp [Region.wanted,hg])]
 unfold Oper.wp execOp
 simp only [hop,hty,resolve,invoke,builtin,Sem.run_bind,Sem.run_pure,Result.andThen_ok,List.map_toArray,List.map_cons,List.map_nil,hrun]
 exact hK
theorem step_copyC {ops:Array Oper} {o:Oper} {a:Act} {w w':World} {K:Act→World→Prop} {Q:Exit→Act→World→Prop} {E:Prop} {v D X:Value} (hg:o.guard = none) (d x:Operand) (hop:o.op = .call { callee:=.builtin .copy,args:=#[d,x],argTypes:=#[77,77] }) (hty:o.type = 3)
  (hrun:(Builtin.copy_ #[77,77] 3 #[D,X]).run Tryz.prog w = .ok v w') (hd:a.eval d = D) (hx:a.eval x = X) (hK:K (a.put o.dst v) w'):if Region.wanted o (yielded ops a.tmps) = true then Oper.wp Tryz.prog o a w K Q else E:=
 step_copyB hg d x hop hty (by rw [hd,hx]; exact hrun) hK
theorem RT.drew {w:World} {B p N:Nat} (h:RT w B p N):RT w.drew B p N:=h
theorem repeat_any (S n:Nat) (hn0:1≤n) (hn:n≤65537) (w:World) (hs:w.cell? ⟨S,0,none⟩ = some (.int .u8 48)) (hS:S < w.heap.size) :
  Calls Tryz.prog 97 #[.slice (some ⟨S,0,none⟩) 1 1,.int .i64 (n:Int)] w fun e w'=>e = .returned (.slice (some ⟨w.heap.size,0,none⟩) n n)∧BT w' w.heap.size (List.replicate n 48)∧Below w.heap.size w w':=by
 obtain ⟨cs,hrunM,hle,_⟩:=Lib.run_makeNoZero (P:=Tryz.prog) w #[3] 77 5 Tryz.under_bytes n (by omega)
 have hcall:(callFunc 121 #[.int .i64 (n:Int)]).run Tryz.prog w = .ok (.value (.slice (some ⟨w.heap.size,0,none⟩) n cs.size)) (w.drew.drew.alloc (.cells cs 5)):=by
  rw [run_callFunc_extern Tryz.func121 (by kernel_rfl) (by kernel_rfl) (by kernel_rfl) (e:=Extern.BytealgMakeNoZero.makeNoZero #[3] #[77]) (by kernel_rfl),hrunM]
  rfl
 clear hrunM
 obtain ⟨W1,hW1⟩:∃ W1,W1 = w.drew.drew.alloc (.cells cs 5):=⟨_,rfl⟩
 rw [← hW1] at hcall
 have hR0:RT W1 w.heap.size 0 cs.size:=⟨cs,by rw [hW1]; have:=heap_alloc_new w.drew.drew (.cells cs 5); simpa [bc] using this,by omega⟩
 have hB1:Below w.heap.size w W1:=by rw [hW1]; exact gr_trans (gr_drew (gr_drew (Below.refl _ w))) (gr_alloc w.drew.drew _)
 clear hW1
 have hsrc:∀ j,j < 1→W1.cell? ⟨S,j,none⟩ = some (.int .u8 48):=by
  intro j hj
  obtain rfl:j = 0:=by omega
  rw [hB1.cell (by exact hS)]
  exact hs
 obtain ⟨W2,hcp,hR2,hO2⟩:=rt_copy hR0 n 1 S n 1 hsrc (Nat.zero_le _) hle
 rw [show min 1 (n - 0) = 1 from by omega,Nat.sub_zero] at hcp
 rw [show 0+min 1 (n - 0) = 1 from by omega] at hR2
 have hB2:Below w.heap.size w W2:=Only.below hB1 hO2 (Nat.le_refl _)
 have HS:=hide (And.intro hR2 hB2)
 clear hO2 hR0 hB1 hsrc hR2 hB2 hs hS
 have hni:(n:Int)≤(cs.size:Int):=by omega
 have hni0:¬ (n:Int) = 0:=by omega
 go_enter Tryz.func97,Tryz.ntmps97
 by_cases hbig:8192 < n
 ·have hbigi:(8192:Int) < (n:Int):=by omega
  go_wp2_with fail
  refine (bmul_one n (by omega) _).mono ?_
  rintro e w1 ⟨rfl,hw1⟩
  rw [hw1]
  clear hw1 w1
  go_wp2
  clear hcp hcall
  go_loopw [10] (fun i wr=>∃ p:Nat,1≤p∧p≤n∧i = .int .i64 (p:Int)∧Hid (RT wr w.heap.size p cs.size∧Below w.heap.size w wr)) (fun i _=>n - (intOf i).toNat)
  case atStart=>exact ⟨1,by omega,by omega,rfl,HS⟩
  case round=>
   obtain ⟨p,hp1,hpn,rfl,HR⟩:=hrel
   clear HS
   by_cases hlt:p < n
   ·have hlti:(p:Int) < (n:Int):=by omega
    obtain ⟨k,hk⟩:∃ k:Nat,k = min p 8192:=⟨_,rfl⟩
    have hmin:min (p:Int) 8192 = (k:Int):=by omega
    have hkp:k≤p:=by omega
    have hk1:1≤k:=by omega
    have hki:(k:Int)≤(n:Int):=by omega
    clear hk
    obtain ⟨W3,hcp3,hR3,hO3⟩:=rt_copy (unhide HR).1.drew n k w.heap.size (n - p) n (fun j hj=>(unhide HR).1.drew.cell j (by omega)) hpn hle
    obtain ⟨m,hm⟩:∃ m,m = min k (n - p):=⟨_,rfl⟩
    rw [← hm] at hcp3 hR3
    have hm1:1≤m:=by omega
    have hmp:p+m≤n:=by omega
    have HR3:=hide (And.intro hR3 (Only.below (unhide HR).2.drew hO3 (Nat.le_refl _)))
    clear hR3 hO3 HR hm
    go_wp2_with fail
    have hnp:¬ n = p:=by omega
    go_region_law (refine step_copyC rfl (.tmp 70) (.tmp 73) rfl rfl hcp3 (by go_simp <;> omega) (by go_simp) ?_)
    clear hcp3
    have hmpi:(p:Int)+(m:Int)≤(n:Int):=by omega
    have hw:IntKind.wrap .i64 ((p:Int)+(m:Int)) = (p:Int)+(m:Int):=by rw [IntKind.wrap_i64]; omega
    go_simp
    refine ⟨⟨_,_,_,_,_,_,_,_,_,_,_,_,_,_,_,_,_,⟨p+m,by omega,hmp,?_,HR3⟩,rfl⟩,?_⟩
    ·exact congrArg (Value.int .i64) (by omega)
    ·simp [intOf]; omega
   ·obtain rfl:p = n:=by omega
    have HR2:=HR
    go_wp2
    go_ret
    obtain ⟨⟨tl,h1,_⟩,h2⟩:=unhide HR2
    exact ⟨rfl,⟨tl,h1⟩,h2⟩
 ·have hbigi:(n:Int)≤8192:=by omega
  go_wp2_with fail
  refine (bmul_one n (by omega) _).mono ?_
  rintro e w1 ⟨rfl,hw1⟩
  rw [hw1]
  clear hw1 w1
  go_wp2
  clear hcp hcall
  go_loopw [10] (fun i wr=>∃ p:Nat,1≤p∧p≤n∧i = .int .i64 (p:Int)∧Hid (RT wr w.heap.size p cs.size∧Below w.heap.size w wr)) (fun i _=>n - (intOf i).toNat)
  case atStart=>exact ⟨1,by omega,by omega,rfl,HS⟩
  case round=>
   obtain ⟨p,hp1,hpn,rfl,HR⟩:=hrel
   clear HS
   by_cases hlt:p < n
   ·have hlti:(p:Int) < (n:Int):=by omega
    obtain ⟨k,hk⟩:∃ k:Nat,k = min p n:=⟨_,rfl⟩
    have hmin:min (p:Int) (n:Int) = (k:Int):=by omega
    have hkp:k≤p:=by omega
    have hk1:1≤k:=by omega
    have hki:(k:Int)≤(n:Int):=by omega
    clear hk
    obtain ⟨W3,hcp3,hR3,hO3⟩:=rt_copy (unhide HR).1.drew n k w.heap.size (n - p) n (fun j hj=>(unhide HR).1.drew.cell j (by omega)) hpn hle
    obtain ⟨m,hm⟩:∃ m,m = min k (n - p):=⟨_,rfl⟩
    rw [← hm] at hcp3 hR3
    have hm1:1≤m:=by omega
    have hmp:p+m≤n:=by omega
    have HR3:=hide (And.intro hR3 (Only.below (unhide HR).2.drew hO3 (Nat.le_refl _)))
    clear hR3 hO3 HR hm
    go_wp2_with fail
    have hnp:¬ n = p:=by omega
    go_region_law (refine step_copyC rfl (.tmp 70) (.tmp 73) rfl rfl hcp3 (by go_simp <;> omega) (by go_simp) ?_)
    clear hcp3
    have hmpi:(p:Int)+(m:Int)≤(n:Int):=by omega
    have hw:IntKind.wrap .i64 ((p:Int)+(m:Int)) = (p:Int)+(m:Int):=by rw [IntKind.wrap_i64]; omega
    go_simp
    refine ⟨⟨_,_,_,_,_,_,_,_,_,_,_,_,_,_,_,_,_,⟨p+m,by omega,hmp,?_,HR3⟩,rfl⟩,?_⟩
    ·exact congrArg (Value.int .i64) (by omega)
    ·simp [intOf]; omega
   ·obtain rfl:p = n:=by omega
    have HR2:=HR
    go_wp2
    go_ret
    obtain ⟨⟨tl,h1,_⟩,h2⟩:=unhide HR2
    exact ⟨rfl,⟨tl,h1⟩,h2⟩
theorem noughts_any (n:Nat) (hn0:1≤n) (hn:n≤65537) (w:World) :
  Calls Tryz.prog 56 #[.int .i64 (n:Int)] w fun e w'=>e = .returned (.slice (some ⟨w.heap.size+1,0,none⟩) n n)∧BT w' (w.heap.size+1) (List.replicate n 48)∧Below w.heap.size w w':=by
 go_enter Tryz.func56,Tryz.ntmps56
 go_wp2_with fail
 have hc:(w.alloc (.cells #[.int .u8 48] 5)).cell? ⟨w.heap.size,0,none⟩ = some (.int .u8 48):=by
  rw [cell_of_row _ _ _ _ _ _ (heap_alloc_new w _)]; rfl
 refine (repeat_any w.heap.size n hn0 hn _ hc (by simp)).mono ?_
 rw [World.size_alloc]
 rintro e w1 ⟨rfl,hT,hb⟩
 have HT:=hide (And.intro hT (gr_trans (gr_alloc w _) (by rw [World.size_alloc]; exact hb)))
 clear hT hb hc
 go_wp2
 go_ret
 exact ⟨rfl,(unhide HT).1,(unhide HT).2⟩
theorem step_callV {ops:Array Oper} {o:Oper} {a:Act} {w:World} {K:Act→World→Prop} {Q:Exit→Act→World→Prop} {E:Prop} {fn:FuncId} {as9:Array Value} {v:Value} (hg:o.guard = none) (hrun:(execOp a.eval o).run Tryz.prog w = .ok (.enter fn as9) w)
  (hc:Calls Tryz.prog fn as9 w fun e w'=>e = .returned v∧Below w.heap.size w w') (hK:∀ w',Below w.heap.size w w'→K (a.put o.dst v) w'):if Region.wanted o (yielded ops a.tmps) = true then Oper.wp Tryz.prog o a w K Q else E:=by
 rw [if_pos (by simp [Region.wanted,hg])]
 unfold Oper.wp
 rw [hrun,Oper.upon_enter]
 exact hc.mono fun e w' ⟨h,hb⟩=>by subst h; exact hK w' hb
theorem step_copyS {ops:Array Oper} {o:Oper} {a:Act} {w w':World} {K:Act→World→Prop} {Q:Exit→Act→World→Prop} {E:Prop} {v D X:Value} (hg:o.guard = none) (d x:Operand) (hop:o.op = .call { callee:=.builtin .copy,args:=#[d,x],argTypes:=#[77,9] }) (hty:o.type = 3)
  (hrun:(Builtin.copy_ #[77,9] 3 #[D,X]).run Tryz.prog w = .ok v w') (hd:a.eval d = D) (hx:a.eval x = X) (hK:K (a.put o.dst v) w'):if Region.wanted o (yielded ops a.tmps) = true then Oper.wp Tryz.prog o a w K Q else E:=
 step_copy hg d x hop hty (by rw [hd,hx]; exact hrun) hK
theorem tell_row {s:ByteArray} (hd:AllD s s.size) (n o z:Nat) (hn:o+s.size+z = n) (tl:Array Value):((bc (List.replicate n 48) ++ tl).toList.take o ++ Lib.byteCells s.data.toList ++ (bc (List.replicate n 48) ++ tl).toList.drop (o+s.size)).toArray = bc ((List.replicate o 0 ++ digs s ++ List.replicate z 0).map (48+·)) ++ tl:=by
 apply Array.toList_inj.1
 have hc:∀ q,(bc (List.replicate q 48)).toList = List.replicate q (Value.int .u8 48):=fun q=>by
  unfold bc; rw [List.map_replicate]; rfl
 have hb:Lib.byteCells s.data.toList = (bc ((digs s).map (48+·))).toList:=by
  unfold Lib.byteCells digs bc
  rw [List.toList_toArray,List.map_map,List.map_map]
  apply List.map_congr_left
  intro b hb
  obtain ⟨i,hi,rfl⟩:=List.getElem_of_mem hb
  have hs:i < s.size:=by simpa using hi
  have:=hd i hs hs
  have e:(s.data.toList[i]'hi).toNat = (s[i]'hs).toNat:=by rw [Array.getElem_toList]; rfl
  simp only [Function.comp]
  rw [e]
  congr 1
  omega
 have hz:∀ (l r:List Nat),(bc (l ++ r)).toList = (bc l).toList ++ (bc r).toList:=fun l r=>by simp [bc]
 rw [List.toList_toArray,Array.toList_append,Array.toList_append,List.map_append,List.map_append,hz,hz,List.map_replicate,List.map_replicate,hc,hc,hc,← hb]
 have hl:n - (o+s.size) = z:=by omega
 rw [List.take_append_of_le_length (by simp; omega),List.take_replicate,Nat.min_eq_left (by omega),List.drop_append_of_le_length (by simp; omega),List.drop_replicate,hl]
 simp only [List.append_assoc]
theorem tell_row2 {s:ByteArray} (hd:AllD s s.size) (n o z:Nat) (hn:o+s.size+z = n) (tl:Array Value):(List.take o ((bc (List.replicate n 48)).toList ++ tl.toList) ++ (Lib.byteCells s.data.toList ++ List.drop (o+s.size) ((bc (List.replicate n 48)).toList ++ tl.toList))).toArray = bc ((List.replicate o 0 ++ digs s ++ List.replicate z 0).map (48+·)) ++ tl:=by
 have h:=tell_row hd n o z hn tl
 rw [Array.toList_append,List.append_assoc] at h
 exact h
theorem told_any (g:Bool) (s:ByteArray) (x ex:Int) (n T o z:Nat) (hd:Hid (AllD s s.size)) (hm:s.size≤65536) (hx0:-1073741824≤x) (hx1:x≤1073741824) (hy0:-1073741824≤ex) (hy1:ex≤1073741824) (hT:Hid ((s.size:Int)+x - ex = (T:Int))) (hz:s.size+z = T) (ho:o+T = n) (hT1:1≤s.size) (hn:n≤65537) (w:World) :
  Calls Tryz.prog 39 #[.agg #[.bool g,.string s,.int .i64 x],.int .i64 ex,.int .i64 (n:Int)] w fun e w'=>∃ B,e = .returned (.slice (some ⟨B,0,none⟩) n n)∧w.heap.size≤B∧BT w' B ((List.replicate o 0 ++ digs s ++ List.replicate z 0).map (48+·))∧Below w.heap.size w w':=by
 go_enter Tryz.func39,Tryz.ntmps39
 go_wp2_with fail
 refine (noughts_any n (by omega) hn _).mono ?_
 rw [World.size_alloc]
 rintro e w1 ⟨rfl,⟨tl,hT0⟩,hb1⟩
 have hS:=(Fs.one w _ _).kept (by rw [World.size_alloc]; exact hb1)
 clear hb1
 obtain ⟨⟨z1,z2,z3,-⟩,-⟩:=hS.cells
 have hw:IntKind.wrap .i64 (o:Int) = (o:Int):=by rw [IntKind.wrap_i64]; omega
 have hno:((n:Int) - (T:Int)) = (o:Int):=by omega
 have hon:(o:Int)≤(n:Int):=by omega
 have hne:¬ n = o:=by omega
 go_wp2_with fail
 go_region_law (first
  | (
    refine step_callV rfl (by go_simp) (tsz_is _ g s x ex T hm hx0 hx1 hy0 hy1 (unhide hT)) ?_
    intro w9 hb9
    have hS9:=hS.drew.kept hb9
    obtain ⟨⟨y1,y2,y3,-⟩,-⟩:=hS9.cells)
  | (refine step_copyS rfl (.tmp 16) (.tmp 18) rfl rfl (Lib.run_copy_row_string _ 77 9 3 5 (w.heap.size+1+1) o (n - o) (n - o) s (bc (List.replicate n 48) ++ tl) 5 Tryz.under_bytes (by kernel_rfl) (by rw [hb9.block _ (block_lt hT0)]; exact hT0) (by omega) (by rw [Array.size_append,size_bc,List.length_replicate]; omega)) (by go_simp <;> omega) (by go_simp) ?_))
 all_goals
  have h9:w9.heap[w.heap.size+1+1]? = some (.cells (bc (List.replicate n 48) ++ tl) 5 (0,0)):=by rw [hb9.block _ (block_lt hT0)]; exact hT0
  rw [tell_row2 (unhide hd) n o z (by omega) tl]
  have HF:=hide (And.intro (show BT (w9.setRow (w.heap.size+1+1) (bc ((List.replicate o 0 ++ digs s ++ List.replicate z 0).map (48+·)) ++ tl)) (w.heap.size+1+1) ((List.replicate o 0 ++ digs s ++ List.replicate z 0).map (48+·)) from ⟨tl,setRow_heap _ _ _ _ _ _ h9⟩) (Only.below hS9.fr ((Only.refl (w.heap.size+1+1) w9).setRow (bc ((List.replicate o 0 ++ digs s ++ List.replicate z 0).map (48+·)) ++ tl)) (by omega)))
  generalize w9.setRow (w.heap.size+1+1) (bc ((List.replicate o 0 ++ digs s ++ List.replicate z 0).map (48+·)) ++ tl) = W5 at HF ⊢
  clear h9 hS9 y1 y2 y3 hb9 hS z1 z2 z3 hT0
  go_wp2
  go_ret
  exact ⟨w.heap.size+1+1,rfl,by omega,(unhide HF).1,(unhide HF).2⟩
theorem text_bt (w:World) (B k n:Nat) (ds:List Nat) (h:BT w B (ds.map (48+·))) (hd:Pl.Dig ds) (hn:ds.length = n) (hk:k≤n) :
  (convert 77 9 (.slice (some ⟨B,k,none⟩) (n - k) (n - k))).run Tryz.prog w = .ok (.string ⟨(chars (ds.drop k)).toArray⟩) w:=by
 have e:n - k = (chars (ds.drop k)).length:=by simp [chars]; omega
 rw [e]
 refine run_convert_bytes_back w 77 9 5 ⟨B,k,none⟩ _ _ Tryz.under_bytes Tryz.under_byte Tryz.under_string ?_
 intro j hj
 have hj2:k+j < ds.length:=by simp [chars] at hj; omega
 have hdl:ds[k+j] < 10:=hd _ (List.getElem_mem _)
 rw [Addr.add_lit,h.cell (k+j) (by simp; omega),List.getElem?_map,List.getElem?_eq_getElem hj2]
 simp [chars]
 omega
theorem dig_drop {ds:List Nat} (h:Pl.Dig ds) (k:Nat):Pl.Dig (ds.drop k):=fun d hd=>h d (List.mem_of_mem_drop hd)
theorem lead_zero {fs:List Nat} {m:Nat} (hl:fs.length = m+1) (hv:Pl.dval fs 0 < 10 ^ m):Pl.dval (fs.drop 1) 0 = Pl.dval fs 0∧fs[0]?.getD 0 = 0:=by
 cases fs with
 | nil=>cases hl
 | cons a fs=>
  have hm:fs.length = m:=by simpa using hl
  rw [Pl.dval_cons,hm] at hv
  have ha:a = 0:=by
   rcases Nat.eq_zero_or_pos a with h|h
   ·exact h
   ·have:=Nat.mul_le_mul_right (10 ^ m) h
    omega
  subst ha
  rw [List.drop_succ_cons,List.drop_zero,Pl.dval_cons]
  exact ⟨by omega,rfl⟩
theorem val_chars {es:List Nat} (h:Pl.Dig es):valS ⟨(chars es).toArray⟩ = Pl.dval es 0:=by unfold valS; rw [digs_chars h]
theorem BT.cells {w:World} {b:Nat} {cs:Array Value} {t:TypeId} {B:Nat} {zs:List Nat} (h:BT w B zs) (hb:w.heap[b]? = some (.cells cs t (0,0))) (ht:t≠5):b≠B:=by
 rintro rfl
 obtain ⟨tl,h⟩:=h
 rw [h] at hb
 injection hb with hb
 injection hb with h1 h2
 exact ht h2.symm
def DfA (g:Bool) (M N:Nat) (x:Int) (V:Value):Prop:=
 (M = N∧V = .tuple #[.agg #[.bool false,.string ⟨#[]⟩,.int .i64 0],.int .i64 0])∨(N < M∧MkA g (M - N) x V)∨(M < N∧MkA (!g) (N - M) x V)
theorem diff_any (g:Bool) (x:Int) (B C m:Nat) (ds es:List Nat) (w:World) (hx0:-1073741824≤x) (hx1:x≤1073741824) (hn:ds.length = m+1) (hn2:es.length = m+1) (hm0:1≤m) (hlen:m≤65536) (hd:Pl.Dig ds) (he:Pl.Dig es) (hv:Pl.dval ds 0 < 10 ^ m) (hv2:Pl.dval es 0 < 10 ^ m) (hne:C≠B) (hrow:BT w B (ds.map (48+·))) (hrow2:BT w C (es.map (48+·))) (w0:World) (h0:Below w0.heap.size w0 w) (hB0:w0.heap.size≤B) (hC0:w0.heap.size≤C) :
  Calls Tryz.prog 40 #[.bool g,.slice (some ⟨B,0,none⟩) (m+1) (m+1),.slice (some ⟨C,0,none⟩) (m+1) (m+1),.int .i64 x] w fun e w'=>∃ V,DfA g (Pl.dval ds 0) (Pl.dval es 0) x V∧e = .returned V∧Below w0.heap.size w0 w':=by
 obtain ⟨W1,hW1⟩:∃ W1,W1 = w.alloc (.cells #[.bool false,.string ⟨#[]⟩,.int .i64 0] 23):=⟨_,rfl⟩
 have hD1:W1.heap[w.heap.size]? = some (.cells #[.bool false,.string ⟨#[]⟩,.int .i64 0] 23 (0,0)):=by rw [hW1]; exact heap_alloc_new w _
 have hb1:Below w.heap.size w W1:=by rw [hW1]; exact gr_alloc w _
 have hr1:=hrow.below hb1
 have hr2:=hrow2.below hb1
 go_enter Tryz.func40,Tryz.ntmps40
 go_wp2_with fail
 rw [← hW1]
 clear hW1 hrow hrow2
 refine (compB_any B C (m+1) ds es W1 hn hn2 hd he hr1 hr2).mono ?_
 rintro e w1 ⟨rfl,hw1⟩
 rw [hw1]
 clear hw1 w1
 by_cases h1:Pl.dval ds 0 < Pl.dval es 0
 ·rw [if_pos h1]
  go_wp2_with fail
  refine (takeB_any C B (m+1) es ds W1 (hide hn2) (hide hn) (by omega) (hide he) (hide hd) (Ne.symm hne) hr2 hr1).mono ?_
  rintro e W2 ⟨rfl,⟨fs,c,hLf,hDf,hc1,hVf,hRf⟩,hO⟩
  have hlt:=Pl.dval_lt hDf
  rw [hLf] at hlt
  have hVe:Pl.dval fs 0 = Pl.dval es 0 - Pl.dval ds 0:=by
   have h2:c = 1:=by
    rcases Nat.eq_zero_or_pos c with h|h
    ·subst h; omega
    ·omega
   subst h2
   omega
  obtain ⟨hVd,_⟩:=lead_zero hLf (by omega)
  obtain ⟨V,hA,HV⟩:=dmake_c (!g) ⟨(chars (fs.drop 1)).toArray⟩ x (by omega) (by omega) (by rw [size_chars,List.length_drop]; omega) (all_chars (dig_drop hDf 1))
  rw [val_chars (dig_drop hDf 1),hVd,hVe] at hA
  obtain ⟨g2,s2,x2,e2,rfl⟩:=hA.parts
  have hD2:W2.heap[w.heap.size]? = some (.cells #[.bool false,.string ⟨#[]⟩,.int .i64 0] 23 (0,0)):=(hO.block _ (BT.cells hr2 hD1 (by decide))).trans hD1
  have htx:=text_bt W2 C 1 (m+1) fs hRf hDf hLf (by omega)
  rw [show m+1 - 1 = m from by omega] at htx
  have HA:=hide hA
  have HV2:=hide HV
  have hF2:Below w0.heap.size w0 W2:=Only.below (gr_trans h0 hb1) hO hC0
  have hsz:w0.heap.size≤w.heap.size:=h0.size
  generalize (⟨(chars (fs.drop 1)).toArray⟩:ByteArray) = tx at htx HV2
  have hmi:(1:Int)≤(m:Int)+1:=by omega
  have hmn:¬ m = 0:=by omega
  clear hA HV hVd hVe hlt hVf hRf hDf hLf
  go_wp2_with fail
  refine (unhide HV2 _).mono ?_
  rintro e W3 ⟨rfl,hb3⟩
  clear htx
  have hD3:W3.heap[w.heap.size]? = some (.cells #[.bool false,.string ⟨#[]⟩,.int .i64 0] 23 (0,0)):=(hb3.block _ (block_lt hD2)).trans hD2
  have hF3:Below w0.heap.size w0 W3:=gr_trans hF2 hb3
  have z0:W3.cell? ⟨w.heap.size,0,none⟩ = some (.bool false):=by rw [cell_of_row W3 _ 0 _ _ _ hD3]; rfl
  have z1:W3.cell? ⟨w.heap.size,1,none⟩ = some (.string ⟨#[]⟩):=by rw [cell_of_row W3 _ 1 _ _ _ hD3]; rfl
  have z2:W3.cell? ⟨w.heap.size,2,none⟩ = some (.int .i64 0):=by rw [cell_of_row W3 _ 2 _ _ _ hD3]; rfl
  have fz0:=frozen_of_row W3 _ 0 _ _ hD3
  have fz1:=frozen_of_row W3 _ 1 _ _ hD3
  have fz2:=frozen_of_row W3 _ 2 _ _ hD3
  clear hD1 hD2 hD3 hb3 hF2
  go_wp2
  exact bodyPost_ret (v:=.tuple #[.agg #[.bool g2,.string s2,.int .i64 x2],.int .i64 e2]) (by simp [results,Tryz.results40,go_sem,z0,z1,z2]) rfl ⟨_,Or.inr (Or.inr ⟨h1,unhide HA⟩),rfl,((hF3.setCell (by exact hsz) _).setCell (by exact hsz) _).setCell (by exact hsz) _⟩
 ·rw [if_neg h1]
  by_cases h2:Pl.dval es 0 < Pl.dval ds 0
  ·rw [if_pos h2]
   go_wp2_with fail
   refine (takeB_any B C (m+1) ds es W1 (hide hn) (hide hn2) (by omega) (hide hd) (hide he) hne hr1 hr2).mono ?_
   rintro e W2 ⟨rfl,⟨fs,c,hLf,hDf,hc1,hVf,hRf⟩,hO⟩
   have hlt:=Pl.dval_lt hDf
   rw [hLf] at hlt
   have hVe:Pl.dval fs 0 = Pl.dval ds 0 - Pl.dval es 0:=by
    have h2:c = 1:=by
     rcases Nat.eq_zero_or_pos c with h|h
     ·subst h; omega
     ·omega
    subst h2
    omega
   obtain ⟨hVd,_⟩:=lead_zero hLf (by omega)
   obtain ⟨V,hA,HV⟩:=dmake_c g ⟨(chars (fs.drop 1)).toArray⟩ x (by omega) (by omega) (by rw [size_chars,List.length_drop]; omega) (all_chars (dig_drop hDf 1))
   rw [val_chars (dig_drop hDf 1),hVd,hVe] at hA
   obtain ⟨g2,s2,x2,e2,rfl⟩:=hA.parts
   have hD2:W2.heap[w.heap.size]? = some (.cells #[.bool false,.string ⟨#[]⟩,.int .i64 0] 23 (0,0)):=(hO.block _ (BT.cells hr1 hD1 (by decide))).trans hD1
   have htx:=text_bt W2 B 1 (m+1) fs hRf hDf hLf (by omega)
   rw [show m+1 - 1 = m from by omega] at htx
   have HA:=hide hA
   have HV2:=hide HV
   have hF2:Below w0.heap.size w0 W2:=Only.below (gr_trans h0 hb1) hO hB0
   have hsz:w0.heap.size≤w.heap.size:=h0.size
   generalize (⟨(chars (fs.drop 1)).toArray⟩:ByteArray) = tx at htx HV2
   have hmi:(1:Int)≤(m:Int)+1:=by omega
   have hmn:¬ m = 0:=by omega
   clear hA HV hVd hVe hlt hVf hRf hDf hLf
   go_wp2_with fail
   refine (unhide HV2 _).mono ?_
   rintro e W3 ⟨rfl,hb3⟩
   clear htx
   have hD3:W3.heap[w.heap.size]? = some (.cells #[.bool false,.string ⟨#[]⟩,.int .i64 0] 23 (0,0)):=(hb3.block _ (block_lt hD2)).trans hD2
   have hF3:Below w0.heap.size w0 W3:=gr_trans hF2 hb3
   have z0:W3.cell? ⟨w.heap.size,0,none⟩ = some (.bool false):=by rw [cell_of_row W3 _ 0 _ _ _ hD3]; rfl
   have z1:W3.cell? ⟨w.heap.size,1,none⟩ = some (.string ⟨#[]⟩):=by rw [cell_of_row W3 _ 1 _ _ _ hD3]; rfl
   have z2:W3.cell? ⟨w.heap.size,2,none⟩ = some (.int .i64 0):=by rw [cell_of_row W3 _ 2 _ _ _ hD3]; rfl
   have fz0:=frozen_of_row W3 _ 0 _ _ hD3
   have fz1:=frozen_of_row W3 _ 1 _ _ hD3
   have fz2:=frozen_of_row W3 _ 2 _ _ hD3
   clear hD1 hD2 hD3 hb3 hF2
   go_wp2
   exact bodyPost_ret (v:=.tuple #[.agg #[.bool g2,.string s2,.int .i64 x2],.int .i64 e2]) (by simp [results,Tryz.results40,go_sem,z0,z1,z2]) rfl ⟨_,Or.inr (Or.inl ⟨h2,unhide HA⟩),rfl,((hF3.setCell (by exact hsz) _).setCell (by exact hsz) _).setCell (by exact hsz) _⟩
  ·rw [if_neg h2]
   have hF1:Below w0.heap.size w0 W1:=gr_trans h0 hb1
   have hsz:w0.heap.size≤w.heap.size:=h0.size
   have he0:Pl.dval ds 0 = Pl.dval es 0:=by omega
   have HE:=hide he0
   have z0:W1.cell? ⟨w.heap.size,0,none⟩ = some (.bool false):=by rw [cell_of_row W1 _ 0 _ _ _ hD1]; rfl
   have z1:W1.cell? ⟨w.heap.size,1,none⟩ = some (.string ⟨#[]⟩):=by rw [cell_of_row W1 _ 1 _ _ _ hD1]; rfl
   have z2:W1.cell? ⟨w.heap.size,2,none⟩ = some (.int .i64 0):=by rw [cell_of_row W1 _ 2 _ _ _ hD1]; rfl
   have fz0:=frozen_of_row W1 _ 0 _ _ hD1
   have fz1:=frozen_of_row W1 _ 1 _ _ hD1
   have fz2:=frozen_of_row W1 _ 2 _ _ hD1
   clear hD1 he0
   go_wp2
   exact bodyPost_ret (v:=.tuple #[.agg #[.bool false,.string ⟨#[]⟩,.int .i64 0],.int .i64 0]) (by simp [results,Tryz.results40,go_sem,z0,z1,z2]) rfl ⟨_,Or.inl ⟨unhide HE,rfl⟩,rfl,((hF1.setCell (by exact hsz) _).setCell (by exact hsz) _).setCell (by exact hsz) _⟩
theorem step_callX {ops:Array Oper} {o:Oper} {a:Act} {w:World} {K:Act→World→Prop} {Q:Exit→Act→World→Prop} {E:Prop} {fn:FuncId} {as9:Array Value} {F:Value→World→Prop} (hg:o.guard = none) (hrun:(execOp a.eval o).run Tryz.prog w = .ok (.enter fn as9) w)
  (hc:Calls Tryz.prog fn as9 w fun e w'=>∃ v,e = .returned v∧F v w') (hK:∀ v w',F v w'→K (a.put o.dst v) w'):if Region.wanted o (yielded ops a.tmps) = true then Oper.wp Tryz.prog o a w K Q else E:=by
 rw [if_pos (by simp [Region.wanted,hg])]
 unfold Oper.wp
 rw [hrun,Oper.upon_enter]
 exact hc.mono fun e w' ⟨v,h,hb⟩=>by subst h; exact hK v w' hb
theorem fs_three (w:World) (cs:Array Value) (t:TypeId) (ds:Array Value) (u:TypeId) (es:Array Value) (v:TypeId):Fs w (((w.alloc (.cells cs t)).alloc (.cells ds u)).alloc (.cells es v)) [⟨w.heap.size,cs,t⟩,⟨w.heap.size+1,ds,u⟩,⟨w.heap.size+1+1,es,v⟩]:=by
 have h:=(((Fs.begin w).alloc cs t).alloc ds u).alloc es v
 rw [World.size_alloc,World.size_alloc] at h
 exact h.sub (by simp)
theorem DfA.parts {g:Bool} {M N:Nat} {x:Int} {V:Value} (h:DfA g M N x V):∃ (g2:Bool) (s2:ByteArray) (x2 e2:Int),V = .tuple #[.agg #[.bool g2,.string s2,.int .i64 x2],.int .i64 e2]:=by
 rcases h with ⟨_,h⟩|⟨_,h⟩|⟨_,h⟩
 ·exact ⟨_,_,_,_,h⟩
 ·exact h.parts
 ·exact h.parts
def tenTop (n:Nat):Nat:=10 ^ n
theorem le_top {k n:Nat} (h:k≤n):10 ^ k≤tenTop n:=Nat.pow_le_pow_right (by omega) h
def MkB (g:Bool) (N:Nat) (x:Int) (V:Value):Prop:=(N < tenTop 65536∧MkA g N x V)∨(tenTop 65536≤N∧V = .tuple #[.agg #[.bool false,.string ⟨#[]⟩,.int .i64 0],.int .i64 4])
theorem MkB.parts {g:Bool} {N:Nat} {x:Int} {V:Value} (h:MkB g N x V):∃ (g2:Bool) (s2:ByteArray) (x2 e2:Int),V = .tuple #[.agg #[.bool g2,.string s2,.int .i64 x2],.int .i64 e2]:=by
 rcases h with ⟨_,h⟩|⟨_,h⟩
 ·exact h.parts
 ·exact ⟨_,_,_,_,h⟩
theorem make_digs (g:Bool) (x:Int) (fs:List Nat) (hx0:-1073741824≤x) (hx1:x≤1073741824) (hd:Pl.Dig fs) (hl:fs.length≤65536∨(fs.length = 65536+1∧fs[0]?.getD 0≠0)):∃ V,MkB g (Pl.dval fs 0) x V∧∀ W:World,Calls Tryz.prog 42 #[.bool g,.string ⟨(chars fs).toArray⟩,.int .i64 x] W fun e W'=>e = .returned V∧Below W.heap.size W W':=by
 rcases hl with hl|⟨hl,h0⟩
 ·obtain ⟨V,hA,HV⟩:=dmake_c g ⟨(chars fs).toArray⟩ x (by omega) (by omega) (by rw [size_chars]; omega) (all_chars hd)
  rw [val_chars hd] at hA
  exact ⟨V,Or.inl ⟨Nat.lt_of_lt_of_le (Pl.dval_lt hd) (le_top hl),hA⟩,HV⟩
 ·refine ⟨_,Or.inr ⟨?_,rfl⟩,fun W=>make_long W g _ x (by rw [size_chars]; omega)⟩
  cases fs with
  | nil=>cases hl
  | cons a fs=>
   have hk:fs.length = 65536:=by simpa using hl
   rw [Pl.dval_cons,hk]
   have ha:1≤a:=by
    have:a≠0:=by simpa using h0
    omega
   have:=Nat.mul_le_mul_right (tenTop 65536) ha
   unfold tenTop at this ⊢
   generalize 10 ^ 65536 = P at *
   omega
def AddA (g:Bool) (M:Nat) (g2:Bool) (N:Nat) (x:Int) (V:Value):Prop:=(g = g2∧MkB g (M+N) x V)∨(g≠g2∧DfA g M N x V)
def ToldF (W:World) (N:Nat) (L:List Nat) (v:Value) (w':World):Prop:=∃ B,v = .slice (some ⟨B,0,none⟩) N N∧W.heap.size≤B∧BT w' B (L.map (48+·))∧Below W.heap.size W w'
theorem told_val (s:ByteArray) (o z:Nat) (hd:AllD s s.size):Pl.dval (List.replicate o 0 ++ digs s ++ List.replicate z 0) 0 = valS s * 10 ^ z∧Pl.Dig (List.replicate o 0 ++ digs s ++ List.replicate z 0)∧(List.replicate o 0 ++ digs s ++ List.replicate z 0).length = o+s.size+z∧valS s * 10 ^ z < 10 ^ (s.size+z):=by
 have hl:(digs s).length = s.size:=by simp [digs]
 have hD:Pl.Dig (digs s):=hd.digS.2.1
 refine ⟨?_,?_,?_,?_⟩
 ·rw [dval_append,dval_append,dval_noughts,dval_noughts,List.length_replicate,Nat.zero_mul,Nat.zero_add,Nat.add_zero]; rfl
 ·intro d h
  rw [List.mem_append,List.mem_append] at h
  rcases h with (h|h)|h
  ·rw [List.eq_of_mem_replicate h]; omega
  ·exact hD d h
  ·rw [List.eq_of_mem_replicate h]; omega
 ·simp only [List.length_append,List.length_replicate,hl]
 ·have:=Pl.dval_lt hD
  rw [hl] at this
  rw [Nat.pow_add]
  exact Nat.mul_lt_mul_of_pos_right this (Nat.pow_pos (by omega))
theorem told_x (g:Bool) (s:ByteArray) (x ex:Int) (n T o z:Nat) (hd:Hid (AllD s s.size)) (hm:s.size≤65536) (hx0:-1073741824≤x) (hx1:x≤1073741824) (hy0:-1073741824≤ex) (hy1:ex≤1073741824) (hT:Hid ((s.size:Int)+x - ex = (T:Int))) (hz:s.size+z = T) (ho:o+T = n) (hT1:1≤s.size) (hn:n≤65537) (w:World) :
  Calls Tryz.prog 39 #[.agg #[.bool g,.string s,.int .i64 x],.int .i64 ex,.int .i64 (n:Int)] w fun e w'=>∃ v,e = .returned v∧ToldF w n (List.replicate o 0 ++ digs s ++ List.replicate z 0) v w':=
 (told_any g s x ex n T o z hd hm hx0 hx1 hy0 hy1 hT hz ho hT1 hn w).mono fun _ _ ⟨B,h,h1,h2,h3⟩=>⟨_,h,B,rfl,h1,h2,h3⟩
-- GO
theorem dadd_go (g:Bool) (s:ByteArray) (x:Int) (g2:Bool) (s2:ByteArray) (x2 ex:Int) (T T2 n N o z o2 z2:Nat) (hm:s.size≤65536) (hm2:s2.size≤65536) (hx0:-1073741824≤x) (hx1:x≤1073741824) (hy0:-1073741824≤x2) (hy1:x2≤1073741824) (hs:s.size≠0) (hs2:s2.size≠0) (hd:Hid (AllD s s.size)) (hd2:Hid (AllD s2 s2.size)) (HC:Hid (∀ W:World,Calls Tryz.prog 35 #[.agg #[.bool g,.string s,.int .i64 x],.agg #[.bool g2,.string s2,.int .i64 x2]] W fun e W'=>e = .returned (.int .i64 0)∧Below W.heap.size W W')) (hmin:min x x2 = ex) (hT:Hid ((s.size:Int)+x - ex = (T:Int))) (hT2:Hid ((s2.size:Int)+x2 - ex = (T2:Int))) (hmax:max (T:Int) (T2:Int) = (n:Int)) (hn:n≤65536) (hN:1+(n:Int) = (N:Int)) (hz:s.size+z = T) (ho:o+T = N) (hz2:s2.size+z2 = T2) (ho2:o2+T2 = N) (M1 M2:Nat) (hM1:Hid (valS s * 10 ^ z = M1)) (hM2:Hid (valS s2 * 10 ^ z2 = M2)) (w:World):Calls Tryz.prog 10 #[.agg #[.bool g,.string s,.int .i64 x],.agg #[.bool g2,.string s2,.int .i64 x2]] w fun e w'=>∃ V,AddA g M1 g2 M2 ex V∧e = .returned V∧Below w.heap.size w w':=by
 have hex0:-1073741824≤ex:=by omega
 have hex1:ex≤1073741824:=by omega
 go_enter Tryz.func10,Tryz.ntmps10
 go_wp2_with fail
 refine (unhide HC _).mono ?_
 rintro e w1 ⟨rfl,hb1⟩
 have hS:=(fs_three w _ _ _ _ _ _).kept hb1
 clear hb1
 obtain ⟨⟨a0,a1,a2,-⟩,⟨b0,b1,b2,-⟩,⟨c0,c1,c2,-⟩,-⟩:=hS.cells
 go_wp2_with fail
 refine (isN_f _ g s x hs).mono ?_
 rintro e w2 ⟨rfl,hb2⟩
 replace hS:=hS.kept hb2
 clear a0 a1 a2 b0 b1 b2 c0 c1 c2
 clear hb2
 obtain ⟨⟨a0,a1,a2,-⟩,⟨b0,b1,b2,-⟩,⟨c0,c1,c2,-⟩,-⟩:=hS.cells
 go_wp2_with fail
 refine (isN_f _ g s x hs).mono ?_
 rintro e w3 ⟨rfl,hb3⟩
 replace hS:=hS.kept hb3
 clear a0 a1 a2 b0 b1 b2 c0 c1 c2
 clear hb3
 obtain ⟨⟨a0,a1,a2,-⟩,⟨b0,b1,b2,-⟩,⟨c0,c1,c2,-⟩,-⟩:=hS.cells
 go_wp2_with fail
 refine (isN_f _ g2 s2 x2 hs2).mono ?_
 rintro e w4 ⟨rfl,hb4⟩
 replace hS:=hS.kept hb4
 clear a0 a1 a2 b0 b1 b2 c0 c1 c2
 clear hb4
 obtain ⟨⟨a0,a1,a2,-⟩,⟨b0,b1,b2,-⟩,⟨c0,c1,c2,-⟩,-⟩:=hS.cells
 go_wp2_with fail
 refine wp_region_any (by kernel_rfl) ?_
 refine wpAny_det [some (47,.agg #[.bool g,.string s,.int .i64 x]),some (48,.int .i64 ex),some (49,.int .i64 (T:Int)),some (50,.agg #[.bool g2,.string s2,.int .i64 x2]),some (51,.int .i64 ex),some (52,.int .i64 (T2:Int)),some (53,.int .i64 (n:Int)),some (8,.int .i64 (n:Int))]
  (fun _ W9=>Fs w W9 [⟨w.heap.size,#[.bool g,.string s,.int .i64 x],23⟩,⟨w.heap.size+1,#[.bool g2,.string s2,.int .i64 x2],23⟩,⟨w.heap.size+1+1,#[.bool false,.string ⟨#[]⟩,.int .i64 0],23⟩]) _ _ rfl (by kernel_rfl) rfl rfl ?_ ?_ (hS).drew
 ·intro l9 t9 W9 i9 hD hi9 hl9 hM
  obtain ⟨o9,ho9,hd9⟩:=(mem_ready.1 hi9).2
  have hin9:i9 < 8:=by
   by_cases h:i9 < 8
   ·exact h
   ·rw [Array.getElem?_eq_none (by rw [hD.len]; simp; omega)] at hl9; cases hl9
  have hcase:i9 = 0∨i9 = 1∨i9 = 2∨i9 = 3∨i9 = 4∨i9 = 5∨i9 = 6∨i9 = 7:=by omega
  clear hin9
  rcases hcase with rfl|rfl|rfl|rfl|rfl|rfl|rfl|rfl
  ·cases ho9
   have r2:=hD.old 2 _ rfl rfl
   have hM0:=hM
   have Q_:=hM0.cellAt (b:=w.heap.size) (cs:=#[.bool g,.string s,.int .i64 x]) (t:=23) (by simp)
   have c9_0:=Q_ 0 _ rfl
   have c9_1:=Q_ 1 _ rfl
   have c9_2:=Q_ 2 _ rfl
   clear Q_
   clear hM0
   refine wpOp_step rfl fun K hK=>?_
   go_simp
   exact hK _ _ ⟨rfl,hM⟩
  ·cases ho9
   have r7:=hD.old 7 _ rfl rfl
   refine wpOp_step rfl fun K hK=>?_
   go_simp
   exact hK _ _ ⟨rfl,hM⟩
  ·cases ho9
   have r47:=hD.od hd9 0 47 _ rfl (by simp)
   have r48:=hD.od hd9 1 48 _ rfl (by simp)
   refine wpOp_step rfl fun K hK=>?_
   go_simp
   go_wp2_with fail
   refine (tsz_is _ g s x ex _ hm hx0 hx1 hex0 hex1 (unhide hT)).mono ?_
   rintro en w9 ⟨rfl,hb9⟩
   exact hK _ _ ⟨rfl,hM.kept hb9⟩
  ·cases ho9
   have r3:=hD.old 3 _ rfl rfl
   have hM0:=hM
   have Q_:=hM0.cellAt (b:=w.heap.size+1) (cs:=#[.bool g2,.string s2,.int .i64 x2]) (t:=23) (by simp)
   have c9_0:=Q_ 0 _ rfl
   have c9_1:=Q_ 1 _ rfl
   have c9_2:=Q_ 2 _ rfl
   clear Q_
   clear hM0
   refine wpOp_step rfl fun K hK=>?_
   go_simp
   exact hK _ _ ⟨rfl,hM⟩
  ·cases ho9
   have r7:=hD.old 7 _ rfl rfl
   refine wpOp_step rfl fun K hK=>?_
   go_simp
   exact hK _ _ ⟨rfl,hM⟩
  ·cases ho9
   have r50:=hD.od hd9 3 50 _ rfl (by simp)
   have r51:=hD.od hd9 4 51 _ rfl (by simp)
   refine wpOp_step rfl fun K hK=>?_
   go_simp
   go_wp2_with fail
   refine (tsz_is _ g2 s2 x2 ex _ hm2 hy0 hy1 hex0 hex1 (unhide hT2)).mono ?_
   rintro en w9 ⟨rfl,hb9⟩
   exact hK _ _ ⟨rfl,hM.kept hb9⟩
  ·cases ho9
   have r49:=hD.od hd9 2 49 _ rfl (by simp)
   have r52:=hD.od hd9 5 52 _ rfl (by simp)
   refine wpOp_step rfl fun K hK=>?_
   go_simp
   exact hK _ _ ⟨act_eq (by (first|(go_simp; done)|simp [hmax])),hM⟩
  ·cases ho9
   have r53:=hD.od hd9 6 53 _ rfl (by simp)
   refine wpOp_step rfl fun K hK=>?_
   go_simp
   exact hK _ _ ⟨rfl,hM⟩
 ·intro l9 W9 hl9 hM
  clear hS a0 a1 a2 b0 b1 b2 c0 c1 c2
  have hS:=hM
  clear hM
  simp only [Puts.lay,List.setIfInBounds_toArray,List.set_cons_zero,List.set_cons_succ]
  obtain ⟨⟨ya,yb,yc,-⟩,⟨yd,ye,yf,-⟩,⟨yg,yh,yi,-⟩,-⟩:=hS.cells
  have hT1:1≤s.size:=by omega
  have hT3:1≤s2.size:=by omega
  have hN1:N≤65537:=by omega
  have hwN:IntKind.wrap .i64 (N:Int) = (N:Int):=by rw [IntKind.wrap_i64]; omega
  go_wp2_with fail
  go_region_law (first
   | (
     refine step_callX rfl (by go_simp) (told_x g s x ex N T o z hd hm hx0 hx1 hex0 hex1 hT hz ho hT1 hN1 _) ?_
     rintro v5 w5 ⟨B,rfl,hB,hRB,hb5⟩
     have hS5:=hS.drew.kept hb5
     obtain ⟨⟨p0,p1,p2,-⟩,⟨q0,q1,q2,-⟩,-⟩:=hS5.cells)
   | (
     refine step_callX rfl (by go_simp) (told_x g2 s2 x2 ex N T2 o2 z2 hd2 hm2 hy0 hy1 hex0 hex1 hT2 hz2 ho2 hT3 hN1 _) ?_
     rintro v6 w6 ⟨C,rfl,hC,hRC,hb6⟩
     have hS6:=hS5.kept hb6))
  all_goals
   have hCB:C≠B:=by
    obtain ⟨tl,h⟩:=hRB
    have:=block_lt h
    omega
   have hRB6:=hRB.below hb6
   have hF6:=gr_trans hb5 hb6
   have hCw:=Nat.le_trans hb5.size hC
   obtain rfl:N = n+1:=by omega
   obtain ⟨v1,d1,l1,t1⟩:=told_val s o z (unhide hd)
   obtain ⟨v2,d2,l2,t2⟩:=told_val s2 o2 z2 (unhide hd2)
   have u1:valS s * 10 ^ z < 10 ^ n:=Nat.lt_of_lt_of_le t1 (Nat.pow_le_pow_right (by omega) (by omega))
   have u2:valS s2 * 10 ^ z2 < 10 ^ n:=Nat.lt_of_lt_of_le t2 (Nat.pow_le_pow_right (by omega) (by omega))
   generalize List.replicate o 0 ++ digs s ++ List.replicate z 0 = L1 at hRB6 v1 d1 l1
   generalize List.replicate o2 0 ++ digs s2 ++ List.replicate z2 0 = L2 at hRC v2 d2 l2
   have k1:L1.length = n+1:=by omega
   have k2:L2.length = n+1:=by omega
   rw [unhide hM1] at v1 u1
   rw [unhide hM2] at v2 u2
   clear t1 t2 l1 l2 hRB
   obtain ⟨⟨a0,a1,a2,-⟩,⟨b0,b1,b2,-⟩,⟨c0,c1,c2,-⟩,-⟩:=hS6.cells
   by_cases hg:g = g2
   ·subst hg
    have hgd:(!(g == g)) = false:=by simp
    clear p0 p1 p2 q0 q1 q2
    go_wp2_with fail
    refine (addB_any B C (n+1) L1 L2 w6 (hide k1) (hide k2) (by omega) (hide d1) (hide d2) hCB hRB6 hRC).mono ?_
    rw [v1,v2]
    rintro e w7 ⟨rfl,⟨fs,c,hLf,hDf,hc1,hVf,hRf⟩,hO⟩
    have hlt:=Pl.dval_lt hDf
    have hVe:Pl.dval fs 0 = M1+M2:=by
     rcases Nat.eq_zero_or_pos c with h|h
     ·subst h; omega
     ·obtain rfl:c = 1:=by omega
      rw [Nat.pow_succ] at hVf
      omega
    have hb7:=Only.below hF6 hO hB
    have hS7:=hS.drew.kept hb7
    have hcx:=hRf.cell 0 (by simp; omega)
    obtain ⟨f0,hf0⟩:∃ f0,f0 = fs[0]?.getD 0:=⟨_,rfl⟩
    have hat:((fs.map (48+·))[0]?.getD 0:Nat) = 48+f0:=by
     rw [List.getElem?_map,hf0,List.getElem?_eq_getElem (by omega)]
     simp
    rw [hat] at hcx
    have hcx':w7.cell? ⟨B,0,none⟩ = some (.int .u8 (48+(f0:Int))):=by rw [hcx]; congr 2
    have hf9:f0 < 10:=by
     rw [hf0,List.getElem?_eq_getElem (by omega)]
     exact hDf _ (List.getElem_mem _)
    clear a0 a1 a2 b0 b1 b2 c0 c1 c2 hcx hat hb7 hO
    obtain ⟨⟨a0,a1,a2,-⟩,-⟩:=hS7.cells
    have hni:(1:Int)≤(n:Int)+1:=by omega
    have hnn:¬ n = 0:=by omega
    by_cases h0:f0 = 0
    ·subst h0
     obtain ⟨V,hA,HV⟩:=make_digs g ex (fs.drop 1) hex0 hex1 (dig_drop hDf 1) (Or.inl (by rw [List.length_drop]; omega))
     have hV1:Pl.dval (fs.drop 1) 0 = M1+M2:=by
      rw [← hVe]
      cases fs with
      | nil=>rfl
      | cons a fs=>
       have:a = 0:=by simpa using hf0.symm
       subst this
       rw [List.drop_succ_cons,List.drop_zero,Pl.dval_cons]
       omega
     rw [hV1] at hA
     have htx:=text_bt w7 B 1 (n+1) fs hRf hDf hLf (by omega)
     rw [show n+1 - 1 = n from by omega] at htx
     clear hV1
     obtain ⟨g3,s3,x3,e3,rfl⟩:=hA.parts
     have HA:Hid (AddA g M1 g M2 ex (.tuple #[.agg #[.bool g3,.string s3,.int .i64 x3],.int .i64 e3])):=hide (Or.inl ⟨rfl,hA⟩)
     have HV2:=hide HV
     generalize (⟨(chars (fs.drop 1)).toArray⟩:ByteArray) = tx at htx HV2
     clear hA HV hVe hlt hVf hf0 hDf hLf hRf
     go_wp2_with fail
     refine (unhide HV2 _).mono ?_
     rintro e w8 ⟨rfl,hb8⟩
     have hS8:=hS7.kept hb8
     have hz8:w8.heap[w.heap.size+1+1]? = some (.cells #[.bool false,.string ⟨#[]⟩,.int .i64 0] 23 (0,0)):=hS8.bx ⟨w.heap.size+1+1,_,_⟩ (by simp)
     have hF8:=hS8.fr
     clear a0 a1 a2 htx hS8 hS7 hS6 hS hb8 hb6 hb5 hRB6 hRC hS5 hcx'
     have c0:w8.cell? ⟨w.heap.size+1+1,0,none⟩ = some (.bool false):=by rw [cell_of_row w8 _ 0 _ _ _ hz8]; rfl
     have c1:w8.cell? ⟨w.heap.size+1+1,1,none⟩ = some (.string ⟨#[]⟩):=by rw [cell_of_row w8 _ 1 _ _ _ hz8]; rfl
     have c2:w8.cell? ⟨w.heap.size+1+1,2,none⟩ = some (.int .i64 0):=by rw [cell_of_row w8 _ 2 _ _ _ hz8]; rfl
     have fz0:=frozen_of_row w8 _ 0 _ _ hz8
     have fz1:=frozen_of_row w8 _ 1 _ _ hz8
     have fz2:=frozen_of_row w8 _ 2 _ _ hz8
     clear hz8
     go_wp2
     exact bodyPost_ret (v:=.tuple #[.agg #[.bool g3,.string s3,.int .i64 x3],.int .i64 e3]) (by simp [results,Tryz.results10,go_sem,c0,c1,c2]) rfl ⟨_,unhide HA,rfl,((hF8.setCell (by simp; omega) _).setCell (by simp; omega) _).setCell (by simp; omega) _⟩
    ·have hbne:((48:Int)+(f0:Int) == 48) = false:=by rw [beq_eq_false_iff_ne]; omega
     obtain ⟨V,hA,HV⟩:=make_digs g ex fs hex0 hex1 hDf (by
      by_cases h6:n+1≤65536
      ·exact Or.inl (by omega)
      ·exact Or.inr ⟨by omega,by rw [← hf0]; exact h0⟩)
     rw [hVe] at hA
     have htx:=text_bt w7 B 0 (n+1) fs hRf hDf hLf (by omega)
     rw [Nat.sub_zero,List.drop_zero] at htx
     obtain ⟨g3,s3,x3,e3,rfl⟩:=hA.parts
     have HA:Hid (AddA g M1 g M2 ex (.tuple #[.agg #[.bool g3,.string s3,.int .i64 x3],.int .i64 e3])):=hide (Or.inl ⟨rfl,hA⟩)
     have HV2:=hide HV
     generalize (⟨(chars fs).toArray⟩:ByteArray) = tx at htx HV2
     clear hA HV hVe hlt hVf hf0 hDf hLf hRf
     go_wp2_with fail
     refine (unhide HV2 _).mono ?_
     rintro e w8 ⟨rfl,hb8⟩
     have hS8:=hS7.kept hb8
     have hz8:w8.heap[w.heap.size+1+1]? = some (.cells #[.bool false,.string ⟨#[]⟩,.int .i64 0] 23 (0,0)):=hS8.bx ⟨w.heap.size+1+1,_,_⟩ (by simp)
     have hF8:=hS8.fr
     clear a0 a1 a2 htx hS8 hS7 hS6 hS hb8 hb6 hb5 hRB6 hRC hS5 hcx'
     have c0:w8.cell? ⟨w.heap.size+1+1,0,none⟩ = some (.bool false):=by rw [cell_of_row w8 _ 0 _ _ _ hz8]; rfl
     have c1:w8.cell? ⟨w.heap.size+1+1,1,none⟩ = some (.string ⟨#[]⟩):=by rw [cell_of_row w8 _ 1 _ _ _ hz8]; rfl
     have c2:w8.cell? ⟨w.heap.size+1+1,2,none⟩ = some (.int .i64 0):=by rw [cell_of_row w8 _ 2 _ _ _ hz8]; rfl
     have fz0:=frozen_of_row w8 _ 0 _ _ hz8
     have fz1:=frozen_of_row w8 _ 1 _ _ hz8
     have fz2:=frozen_of_row w8 _ 2 _ _ hz8
     clear hz8
     go_wp2
     exact bodyPost_ret (v:=.tuple #[.agg #[.bool g3,.string s3,.int .i64 x3],.int .i64 e3]) (by simp [results,Tryz.results10,go_sem,c0,c1,c2]) rfl ⟨_,unhide HA,rfl,((hF8.setCell (by simp; omega) _).setCell (by simp; omega) _).setCell (by simp; omega) _⟩
   ·have hgn:(g != g2) = true:=bne_iff_ne.2 hg
    have hgx:(g ^^ g2) = true:=by cases g <;> cases g2 <;> simp_all
    have hgb:(g == g2) = false:=beq_eq_false_iff_ne.2 hg
    have hgd:(!(g == g2)) = true:=by rw [hgb]; rfl
    clear p0 p1 p2 q0 q1 q2
    go_wp2_with fail
    refine (diff_any g ex B C n L1 L2 w6 hex0 hex1 k1 k2 (by omega) hn d1 d2 (by rw [v1]; exact u1) (by rw [v2]; exact u2) hCB hRB6 hRC _ hF6 hB hCw).mono ?_
    rw [v1,v2]
    rintro e w7 ⟨V,hV,rfl,hb7⟩
    have hS7:=hS.drew.kept hb7
    obtain ⟨g3,s3,x3,e3,rfl⟩:=hV.parts
    have HV:Hid (AddA g M1 g2 M2 ex (.tuple #[.agg #[.bool g3,.string s3,.int .i64 x3],.int .i64 e3])):=hide (Or.inr ⟨hg,hV⟩)
    have hz7:w7.heap[w.heap.size+1+1]? = some (.cells #[.bool false,.string ⟨#[]⟩,.int .i64 0] 23 (0,0)):=hS7.bx ⟨w.heap.size+1+1,_,_⟩ (by simp)
    have hF7:=hS7.fr
    clear a0 a1 a2 b0 b1 b2 c0 c1 c2 hV hS7 hS6 hS hb7 hb6 hb5 hRB6 hRC hS5
    have c0:w7.cell? ⟨w.heap.size+1+1,0,none⟩ = some (.bool false):=by rw [cell_of_row w7 _ 0 _ _ _ hz7]; rfl
    have c1:w7.cell? ⟨w.heap.size+1+1,1,none⟩ = some (.string ⟨#[]⟩):=by rw [cell_of_row w7 _ 1 _ _ _ hz7]; rfl
    have c2:w7.cell? ⟨w.heap.size+1+1,2,none⟩ = some (.int .i64 0):=by rw [cell_of_row w7 _ 2 _ _ _ hz7]; rfl
    have fz0:=frozen_of_row w7 _ 0 _ _ hz7
    have fz1:=frozen_of_row w7 _ 1 _ _ hz7
    have fz2:=frozen_of_row w7 _ 2 _ _ hz7
    clear hz7
    go_wp2
    exact bodyPost_ret (v:=.tuple #[.agg #[.bool g3,.string s3,.int .i64 x3],.int .i64 e3]) (by simp [results,Tryz.results10,go_sem,c0,c1,c2]) rfl ⟨_,unhide HV,rfl,((hF7.setCell (by simp; omega) _).setCell (by simp; omega) _).setCell (by simp; omega) _⟩
theorem MkB.uniq {g:Bool} {N:Nat} {x:Int} {V V':Value} (h:MkB g N x V) (h':MkB g N x V'):V = V':=by
 rcases h with ⟨h1,h2⟩|⟨h1,h2⟩ <;> rcases h' with ⟨k1,k2⟩|⟨k1,k2⟩
 ·exact h2.uniq k2
 ·omega
 ·omega
 ·rw [h2,k2]
theorem MkB.low {g:Bool} {N:Nat} {x:Int} {V:Value} (h:MkB g N x V) (hN:N < tenTop 65536):MkA g N x V:=by
 rcases h with ⟨_,h2⟩|⟨h1,_⟩
 ·exact h2
 ·omega
theorem DfA.uniq {g:Bool} {M N:Nat} {x:Int} {V V':Value} (h:DfA g M N x V) (h':DfA g M N x V'):V = V':=by
 rcases h with ⟨h1,h2⟩|⟨h1,h2⟩|⟨h1,h2⟩ <;> rcases h' with ⟨k1,k2⟩|⟨k1,k2⟩|⟨k1,k2⟩ <;> first
  | (exfalso; omega)
  | exact h2.uniq k2
  | rw [h2,k2]
theorem AddA.uniq {g:Bool} {M:Nat} {g2:Bool} {N:Nat} {x:Int} {V V':Value} (h:AddA g M g2 N x V) (h':AddA g M g2 N x V'):V = V':=by
 rcases h with ⟨h1,h2⟩|⟨h1,h2⟩ <;> rcases h' with ⟨k1,k2⟩|⟨k1,k2⟩
 ·exact h2.uniq k2
 ·exact absurd h1 k1
 ·exact absurd k1 h1
 ·exact h2.uniq k2
theorem tenTop_le {k n:Nat} (h:n≤k):tenTop n≤10 ^ k:=Nat.pow_le_pow_right (by omega) h
theorem tenTop_pos (n:Nat):0 < tenTop n:=Nat.pow_pos (by omega)
theorem dmake_says (g:Bool) (N:Nat) (x:Int) (hx0:-9223372036854775808≤x) (hx1:x < 9223372036854775808) :
  ∃ (t:ByteArray) (g2:Bool) (s2:ByteArray) (x2 e2:Int),Says t N∧MkB g N x (.tuple #[.agg #[.bool g2,.string s2,.int .i64 x2],.int .i64 e2]) ∧
   ∀ W:World,Calls Tryz.prog 42 #[.bool g,.string t,.int .i64 x] W fun e W'=>e = .returned (.tuple #[.agg #[.bool g2,.string s2,.int .i64 x2],.int .i64 e2])∧Below W.heap.size W W':=by
 obtain ⟨ds,hD,hS,hv,hL⟩:=says_ex N
 by_cases hl:ds.length≤65536
 ·have hsz:(⟨(chars ds).toArray⟩:ByteArray).size≤65536:=by rw [size_chars]; omega
  have hvs:valS ⟨(chars ds).toArray⟩ = N:=by unfold valS; rw [digs_chars hD]; exact hv
  obtain ⟨V,hA,hM⟩:=dmake_c g ⟨(chars ds).toArray⟩ x hx0 hx1 hsz (all_chars hD)
  rw [hvs] at hA
  obtain ⟨g2,s2,x2,e2,rfl⟩:=hA.parts
  have hlt:N < tenTop 65536:=by rw [← hv]; exact Nat.lt_of_lt_of_le (Pl.dval_lt hD) (le_top hl)
  exact ⟨_,g2,s2,x2,e2,hS,Or.inl ⟨hlt,hA⟩,hM⟩
 ·have hsz:65536 < (⟨(chars ds).toArray⟩:ByteArray).size:=by rw [size_chars]; omega
  have hge:tenTop 65536≤N:=by
   obtain ⟨l1,l2⟩:=hL
   match ds,l1 with
   | d :: r,_=>
    rcases l2 with l2|l2
    ·rw [← hv]
     exact Nat.le_trans (tenTop_le (by simp at hl; omega)) (Pl.lead_low l2)
    ·omega
  exact ⟨_,false,⟨#[]⟩,0,4,hS,Or.inr ⟨hge,rfl⟩,fun W=>make_long W g _ x hsz⟩
theorem alld_mem {u:ByteArray}:AllD u u.size↔∀ b,b∈u.data.toList→48≤b.toNat∧b.toNat≤57:=by
 constructor
 ·intro h b hb
  obtain ⟨j,hj,rfl⟩:=List.getElem_of_mem hb
  exact h j (by simpa using hj) (by simpa using hj)
 ·intro h j hj _
  exact h _ (List.getElem_mem (l:=u.data.toList) (n:=j) (by simpa using hj))
theorem valS_lt (s:ByteArray) (z:Nat) (hd:AllD s s.size):valS s * 10 ^ z < 10 ^ (s.size+z):=(told_val s 0 z hd).2.2.2
theorem div_two_d {m f:Nat} (hf:0 < f) (W:World) (a:Option Addr) (n c:Nat) (a':Option Addr) (n' c':Nat) (h:Num W a n m) (h':Num W a' n' f):Calls Tryz.prog 107 #[.agg #[.slice a n c],.agg #[.slice a' n' c']] W fun en W'=>(∃ a n c a' n' c',en = .returned (.tuple #[.agg #[.slice a n c],.agg #[.slice a' n' c'],.int .i64 0])∧Mine W' W.heap.size a n c (m / f)∧Mine W' W.heap.size a' n' c' (m % f))∧Below W.heap.size W W':=
 (div_any a a' n n' c c' m f W h h').mono fun e W' ⟨k1,k2⟩=>⟨by
  rcases k1 with ⟨k1,_⟩|⟨_,k1⟩
  ·omega
  ·exact k1,k2⟩
theorem take_no {m f:Nat} (hf:0 < f) (hr:m % f≠0) (W:World) (a:Option Addr) (n c:Nat) (a':Option Addr) (n' c':Nat) (h:Num W a n m) (h':Num W a' n' f):Calls Tryz.prog 74 #[.agg #[.slice a n c],.agg #[.slice a' n' c']] W fun en W'=>en = .returned (.tuple #[.agg #[.slice a n c],.int .i64 0])∧Below W.heap.size W W':=
 tk_no W a n c m a' n' c' f (m / f) (m % f) h h' hr (hide (div_two_d hf))
theorem take_yes {m f q:Nat} (hf:0 < f) (hr:m % f = 0) (hq:m / f = q) (W:World) (a:Option Addr) (n c:Nat) (a':Option Addr) (n' c':Nat) (h:Num W a n m) (h':Num W a' n' f):Calls Tryz.prog 74 #[.agg #[.slice a n c],.agg #[.slice a' n' c']] W fun en W'=>(∃ a n c,en = .returned (.tuple #[.agg #[.slice a n c],.int .i64 1])∧Mine W' W.heap.size a n c q)∧Below W.heap.size W W':=by
 rw [← hq]
 exact tk_yes W a n c m a' n' c' f (m / f) (m % f) h h' hr (hide (div_two_d hf))
theorem pow_le_num {j f v m:Nat} (hf:2≤f) (hv:0 < v) (hm:m = v * f ^ j) {W:World} {a:Option Addr} {n:Nat} (h:Num W a n m):j≤524288:=by
 have h1:=h.lt
 have h2:4294967296 ^ Pl.top = 2 ^ (32 * Pl.top):=by rw [Nat.pow_mul]
 rw [h2] at h1
 have h3:2 ^ j≤f ^ j:=Nat.pow_le_pow_left hf j
 have h4:1 * f ^ j≤v * f ^ j:=Nat.mul_le_mul_right _ hv
 have h5:2 ^ j < 2 ^ (32 * Pl.top):=by rw [hm] at h1; omega
 have h6:=(Nat.pow_lt_pow_iff_right (by decide)).1 h5
 have:=Pl.top_eq
 omega
def WoA (k u:Nat) (a:Option Addr) (n c:Nat) (W W':World) (en:Ending):Prop:=
 (k = 0∧en = .returned (.tuple #[.agg #[.slice a n c],.int .i64 0]))∨(0 < k∧∃ A N C,en = .returned (.tuple #[.agg #[.slice A N C],.int .i64 (k:Int)])∧Mine W' W.heap.size A N C u)
theorem without_c:∀ (m f k u:Nat),2≤f→0 < u→m = u * f ^ k→u % f≠0→∀ (W:World) (a:Option Addr) (n c:Nat) (a':Option Addr) (n' c':Nat),Num W a n m→Num W a' n' f→Calls Tryz.prog 30 #[.agg #[.slice a n c],.agg #[.slice a' n' c']] W fun en W'=>WoA k u a n c W W' en∧Below W.heap.size W W':=by
 intro m
 induction m using Nat.strongRecOn with
 | ind m ih=>
  intro f k u hf hu hm hr W a n c a' n' c' h h'
  have hf0:0 < f:=by omega
  cases k with
  | zero=>
   have hm0:m = u:=by simpa using hm
   subst hm0
   exact (wo_0 W a n c m a' n' c' f h h' (hide (take_no hf0 hr))).mono fun e W' ⟨k1,k2⟩=>⟨Or.inl ⟨rfl,k1⟩,k2⟩
  | succ k0=>
   obtain ⟨q,hq⟩:∃ q,q = u * f ^ k0:=⟨_,rfl⟩
   have hmq:m = q * f:=by rw [hm,hq,Nat.pow_succ,Nat.mul_assoc]
   have hqpos:0 < q:=by rw [hq]; exact Nat.mul_pos hu (Nat.pow_pos hf0)
   have hdiv:m / f = q:=by rw [hmq]; exact Nat.mul_div_cancel _ hf0
   have hmod:m % f = 0:=by rw [hmq]; exact Nat.mul_mod_left _ _
   have hlt:q < m:=by rw [hmq]; have:=Nat.mul_le_mul_left q hf; omega
   have H1:=hide (take_yes (m:=m) (f:=f) hf0 hmod hdiv)
   by_cases ho:Over (f * f)
   ·have hk0:k0 = 0:=by
     cases k0 with
     | zero=>rfl
     | succ j=>
      exfalso
      have h1:=h.lt
      have h2:=ho.le
      have h3:f≤q:=by
       rw [hq,Nat.pow_succ,← Nat.mul_assoc]
       have h4:0 < u * f ^ j:=Nat.mul_pos hu (Nat.pow_pos hf0)
       have:=Nat.mul_le_mul_right f h4
       omega
      have h4:=Nat.mul_le_mul_right f h3
      omega
    subst hk0
    have hqu:q = u:=by simpa using hq
    subst hqu
    refine (wo_over W a n c m a' n' c' f q h h' H1 (hide fun W a n c a' n' c' k1 k2=>(mul_any a a' n n' c c' f f W k1 k2).mono fun e W' ⟨k3,k4⟩=>⟨?_,k4⟩) (hide (take_no hf0 hr))).mono fun e W' ⟨k1,k2⟩=>⟨Or.inr ⟨by omega,k1⟩,k2⟩
    rcases k3 with ⟨A,N,C,_,k3⟩|⟨k3,_⟩
    ·have h5:=k3.num.lt
     have h6:=ho.le
     omega
    ·exact k3
   ·obtain ⟨j,r,hj,hr2⟩:∃ j r,k0 = 2 * j+r∧r < 2:=⟨k0 / 2,k0 % 2,by omega,by omega⟩
    obtain ⟨f2,hf2⟩:∃ f2,f2 = f * f:=⟨_,rfl⟩
    obtain ⟨v,hv⟩:∃ v,v = u * f ^ r:=⟨_,rfl⟩
    have hqv:q = v * f2 ^ j:=by
     rw [hq,hv,hj,hf2,Nat.pow_add,Nat.pow_mul,Nat.pow_two,Nat.mul_assoc,Nat.mul_comm (f ^ r)]
    have hvp:0 < v:=by rw [hv]; exact Nat.mul_pos hu (Nat.pow_pos hf0)
    have hf22:2≤f2:=by rw [hf2]; have:=Nat.mul_le_mul hf hf; omega
    have hv2:v % f2≠0:=by
     intro h0
     have hd:=Nat.dvd_of_mod_eq_zero h0
     rw [hf2,hv] at hd
     apply hr
     apply Nat.mod_eq_zero_of_dvd
     rcases (by omega:r = 0∨r = 1) with rfl|rfl
     ·rw [Nat.pow_zero,Nat.mul_one] at hd
      exact Nat.dvd_trans (Nat.dvd_mul_right f f) hd
     ·rw [Nat.pow_one] at hd
      exact Nat.dvd_of_mul_dvd_mul_right hf0 hd
    have HW:=ih q hlt f2 j v hf22 hvp hqv hv2
    have HQ:Hid (∀ (W:World) (a:Option Addr) (n c:Nat) (a':Option Addr) (n' c':Nat),Num W a n f→Num W a' n' f→Calls Tryz.prog 25 #[.agg #[.slice a n c],.agg #[.slice a' n' c']] W fun en W'=>(∃ a n c,en = .returned (.tuple #[.agg #[.slice a n c],.int .i64 0])∧Mine W' W.heap.size a n c f2)∧Below W.heap.size W W'):=hide fun W a n c a' n' c' k1 k2=>(mul_any a a' n n' c c' f f W k1 k2).mono fun e W' ⟨k3,k4⟩=>⟨by
     rw [hf2]
     rcases k3 with k3|⟨_,k3⟩
     ·exact k3
     ·exact absurd k3 ho,k4⟩
    have hjb:j≤524288:=pow_le_num (j:=k0+1) (f:=f) hf hu hm h |> fun h=>by omega
    have fin:∀ {cnt:Int} {W':World} {e:Ending},cnt = ((k0+1:Nat):Int)→(∃ A N C,e = .returned (.tuple #[.agg #[.slice A N C],.int .i64 cnt])∧Mine W' W.heap.size A N C u)→WoA (k0+1) u a n c W W' e:=fun hc k1=>Or.inr ⟨by omega,by rw [← hc]; exact k1⟩
    have hv0:r = 0→v = u:=fun e=>by rw [hv,e,Nat.pow_zero,Nat.mul_one]
    have hv1:r = 1→v % f = 0∧v / f = u:=fun e=>by rw [hv,e,Nat.pow_one]; exact ⟨Nat.mul_mod_left _ _,Nat.mul_div_cancel _ hf0⟩
    by_cases hj0:j = 0
    ·subst hj0
     have hqv0:q = v:=by simpa using hqv
     subst hqv0
     have HS:Hid (∀ (W:World) (a:Option Addr) (n c:Nat) (a':Option Addr) (n' c':Nat),Num W a n q→Num W a' n' f2→Calls Tryz.prog 30 #[.agg #[.slice a n c],.agg #[.slice a' n' c']] W fun en W'=>en = .returned (.tuple #[.agg #[.slice a n c],.int .i64 0])∧Below W.heap.size W W'):=hide fun W a n c a' n' c' k1 k2=>(HW W a n c a' n' c' k1 k2).mono fun e W' ⟨k3,k4⟩=>⟨by
      rcases k3 with ⟨_,k3⟩|⟨k3,_⟩
      ·exact k3
      ·omega,k4⟩
     rcases (by omega:r = 0∨r = 1) with rfl|rfl
     ·have hqu:=hv0 rfl
      subst hqu
      exact (wo_00 W a n c m a' n' c' f q f2 h h' H1 HQ HS (hide (take_no hf0 hr))).mono fun e W' ⟨k1,k2⟩=>⟨fin (by omega) k1,k2⟩
     ·exact (wo_01 W a n c m a' n' c' f q f2 u h h' H1 HQ HS (hide (take_yes hf0 (hv1 rfl).1 (hv1 rfl).2))).mono fun e W' ⟨k1,k2⟩=>⟨fin (by omega) k1,k2⟩
    ·have HS:Hid (∀ (W:World) (a:Option Addr) (n c:Nat) (a':Option Addr) (n' c':Nat),Num W a n q→Num W a' n' f2→Calls Tryz.prog 30 #[.agg #[.slice a n c],.agg #[.slice a' n' c']] W fun en W'=>(∃ a n c,en = .returned (.tuple #[.agg #[.slice a n c],.int .i64 (j:Int)])∧Mine W' W.heap.size a n c v)∧Below W.heap.size W W'):=hide fun W a n c a' n' c' k1 k2=>(HW W a n c a' n' c' k1 k2).mono fun e W' ⟨k3,k4⟩=>⟨by
      rcases k3 with ⟨k3,_⟩|⟨_,k3⟩
      ·omega
      ·exact k3,k4⟩
     rcases (by omega:r = 0∨r = 1) with rfl|rfl
     ·have hqu:=hv0 rfl
      subst hqu
      exact (wo_10 W a n c m a' n' c' f q f2 j v h h' H1 HQ hjb HS (hide (take_no hf0 hr))).mono fun e W' ⟨k1,k2⟩=>⟨fin (by omega) k1,k2⟩
     ·exact (wo_11 W a n c m a' n' c' f q f2 j v u h h' H1 HQ hjb HS (hide (take_yes hf0 (hv1 rfl).1 (hv1 rfl).2))).mono fun e W' ⟨k1,k2⟩=>⟨fin (by omega) k1,k2⟩
theorem ten_two (n:Nat):10 ^ (3 * n+1)≤2 ^ (10 * n+4):=by
 rw [Nat.pow_add,Nat.pow_add,Nat.pow_mul,Nat.pow_mul]
 exact Nat.mul_le_mul (Nat.pow_le_pow_left (by decide) n) (by decide)
theorem top_two {a n k u:Nat} (ha:a = 3 * n+1) (hk:10 * n+4≤k) (h:2 ^ k≤u):tenTop a≤u:=by
 have e:tenTop a = 10 ^ a:=rfl
 rw [e,ha]
 exact Nat.le_trans (ten_two n) (Nat.le_trans (Nat.pow_le_pow_right (by decide) hk) h)
theorem says_long {t:ByteArray} {n:Nat} (h:Says t n) (hl:65536 < t.size):tenTop 65536≤n:=by
 obtain ⟨ds,h1,h2,⟨l1,l2⟩,h4⟩:=h
 have hs:t.size = ds.length:=by
  have:=congrArg List.length h1
  simpa [chars] using this
 match ds,l1 with
 | d :: r,_=>
  rcases l2 with l2|l2
  ·rw [← h4]
   exact Nat.le_trans (tenTop_le (by simp at hs; omega)) (Pl.lead_low l2)
  ·omega
theorem whole_c (g:Bool) (m:Nat) (x:Int) (z u:Nat) (hm:m = u * 10 ^ z) (hr:u % 10≠0) (hz:z≤524288) (hx0:-4294967296≤x) (hx1:x≤4294967296) {g3:Bool} {s3:ByteArray} {x3 e3:Int} (hA:MkB g u (x+(z:Int)) (.tuple #[.agg #[.bool g3,.string s3,.int .i64 x3],.int .i64 e3])) (W:World) (a:Option Addr) (n c:Nat) (h:Num W a n m) :
  Calls Tryz.prog 33 #[.bool g,.agg #[.slice a n c],.int .i64 x] W fun en W'=>en = .returned (.tuple #[.agg #[.bool g3,.string s3,.int .i64 x3],.int .i64 e3])∧Below W.heap.size W W':=by
 have hu:0 < u:=by omega
 obtain ⟨k,hk⟩:=bl_ex u
 have HB:Hid (∀ (W:World) (a:Option Addr) (n c:Nat),Num W a n u→Calls Tryz.prog 78 #[.agg #[.slice a n c]] W fun en W'=>en = .returned (.tuple #[.int .i64 (k:Int),.int .i64 0])∧Below W.heap.size W W'):=hide fun W a n c h=>(bits_any a n c u W h).mono fun e W' ⟨⟨k',k1,k2,_⟩,k4⟩=>⟨by rw [k1,k2.uniq hk],k4⟩
 have HW:=without_c m 10 z u (by omega) hu hm hr
 obtain ⟨t,g4,s4,x4,e4,hS,hA4,hMk⟩:=dmake_says g u (x+(z:Int)) (by omega) (by omega)
 have hV:=hA4.uniq hA
 simp only [Value.tuple.injEq,Array.mk.injEq,List.cons.injEq,Value.agg.injEq,Value.bool.injEq,Value.string.injEq,Value.int.injEq,true_and,and_true] at hV
 obtain ⟨⟨rfl,rfl,rfl⟩,rfl⟩:=hV
 have HT:Hid (∀ (W:World) (a:Option Addr) (n c:Nat),Num W a n u→Calls Tryz.prog 79 #[.agg #[.slice a n c]] W fun en W'=>en = .returned (.tuple #[.string t,.int .i64 0])∧Below W.heap.size W W'):=hide fun W a n c h=>(text_any a n c u W h).mono fun e W' ⟨t',k1,k2,k3⟩=>⟨by rw [k1,says_eq k2 hS],k3⟩
 have hmany:218454 < k→(.tuple #[.agg #[.bool g4,.string s4,.int .i64 x4],.int .i64 e4]:Value) = .tuple #[.agg #[.bool false,.string ⟨#[]⟩,.int .i64 0],.int .i64 4]:=fun hk2=>by
  refine hA.uniq (Or.inr ⟨?_,rfl⟩)
  rcases hk.2 with h0|h0
  ·omega
  ·exact top_two (n:=21845) (by omega) (by omega) h0
 by_cases hz0:z = 0
 ·subst hz0
  have hmu:m = u:=by simpa using hm
  subst hmu
  have HS:Hid (∀ (W:World) (a:Option Addr) (n c:Nat) (a':Option Addr) (n' c':Nat),Num W a n m→Num W a' n' 10→Calls Tryz.prog 30 #[.agg #[.slice a n c],.agg #[.slice a' n' c']] W fun en W'=>en = .returned (.tuple #[.agg #[.slice a n c],.int .i64 0])∧Below W.heap.size W W'):=hide fun W a n c a' n' c' k1 k2=>(HW W a n c a' n' c' k1 k2).mono fun e W' ⟨k3,k4⟩=>⟨by
   rcases k3 with ⟨_,k3⟩|⟨k3,_⟩
   ·exact k3
   ·omega,k4⟩
  by_cases hk2:218454 < k
  ·rw [hmany hk2]
   exact whole_s_many W g a n c m x k h HS HB hk2
  ·exact whole_s_ok W g a n c m x k t _ g4 s4 x4 e4 h HS HB (by omega) HT rfl (by omega) (by omega) (hide (by simpa using hMk))
 ·have HS:Hid (∀ (W:World) (a:Option Addr) (n c:Nat) (a':Option Addr) (n' c':Nat),Num W a n m→Num W a' n' 10→Calls Tryz.prog 30 #[.agg #[.slice a n c],.agg #[.slice a' n' c']] W fun en W'=>(∃ a n c,en = .returned (.tuple #[.agg #[.slice a n c],.int .i64 (z:Int)])∧Mine W' W.heap.size a n c u)∧Below W.heap.size W W'):=hide fun W a n c a' n' c' k1 k2=>(HW W a n c a' n' c' k1 k2).mono fun e W' ⟨k3,k4⟩=>⟨by
   rcases k3 with ⟨k3,_⟩|⟨_,k3⟩
   ·omega
   ·exact k3,k4⟩
  by_cases hk2:218454 < k
  ·rw [hmany hk2]
   exact whole_g_many W g a n c m x k z u h HS HB hk2
  ·exact whole_g_ok W g a n c m x k z u t _ g4 s4 x4 e4 h HS HB (by omega) HT rfl (by omega) (by omega) (hide hMk)
theorem dnum_any (g:Bool) (s:ByteArray) (x:Int) (hd:AllD s s.size) (hm:s.size≤65536) (h0:s.size≠0) (W:World):Calls Tryz.prog 26 #[.agg #[.bool g,.string s,.int .i64 x]] W fun en W'=>(∃ a n c,en = .returned (.agg #[.slice a n c])∧Mine W' W.heap.size a n c (valS s))∧Below W.heap.size W W':=
 dnum_is W g s x (valS s) (hide fun W=>(parse_any s W (by omega)).mono fun e W' ⟨h,hb⟩=>⟨by
  rcases h with ⟨h1,_⟩|⟨h1,_⟩|⟨i,hi,_,_,h3,_⟩|⟨a,n,c,_,_,_,h,hM⟩
  ·omega
  ·exact absurd h1 h0
  ·exact absurd (hd i hi hi) h3
  ·exact ⟨a,n,c,h,hM⟩,hb⟩)
theorem val_pos {s:ByteArray} (hd:AllD s s.size) (h0:s.size≠0) (hc:Cd s.data.toList):0 < valS s:=by
 have hne:¬ ∀ (j:Nat) (hj:j < s.size),(s[j]'hj).toNat = 48:=fun h=>by
  have h1:=h (s.size - 1) (by omega)
  refine hc.2 (s[s.size - 1]'(by omega)) ?_ h1
  rw [List.getLast?_eq_getElem?,Array.length_toList,List.getElem?_eq_getElem (by rw [Array.length_toList]; exact Nat.sub_lt (Nat.pos_of_ne_zero h0) (by decide))]
  rfl
 obtain ⟨f,q,hfq,he⟩:=Ends.ex hne
 obtain ⟨n,z,_,h2,h3,_⟩:=core_of hd he hfq
 rw [h2]
 exact Nat.mul_pos (by omega) (Nat.pow_pos (by decide))
structure DcOk (s:ByteArray) (x:Int):Prop where
 sz:s.size≤65536
 ok:AllD s s.size
 lo:-1073741824≤x
 hi:x≤1073741824
 zero:s.size = 0→x = 0
 fst:∀ h:0 < s.size,(s[0]'h).toNat≠48
 cd:Cd s.data.toList
def dvl (g:Bool) (A:Nat):Int:=if g then -(A:Int) else (A:Int)
def BU (w:World) (B:Nat) (l:List UInt8):Prop:=BT w B (l.map UInt8.toNat)
theorem bu_noughts {w:World} {B n:Nat} (h:BT w B (List.replicate n 48)):BU w B (List.replicate n 48):=by
 unfold BU; rw [List.map_replicate]; exact h
theorem bc_cells (l:List UInt8):(bc (l.map UInt8.toNat)).toList = Lib.byteCells l:=by
 unfold bc Lib.byteCells
 rw [List.toList_toArray,List.map_map]; rfl
theorem cells_app (l r:List UInt8):Lib.byteCells (l ++ r) = Lib.byteCells l ++ Lib.byteCells r:=by unfold Lib.byteCells; rw [List.map_append]
theorem cells_take (l:List UInt8) (k:Nat):Lib.byteCells (l.take k) = (Lib.byteCells l).take k:=by unfold Lib.byteCells; rw [List.map_take]
theorem cells_drop (l:List UInt8) (k:Nat):Lib.byteCells (l.drop k) = (Lib.byteCells l).drop k:=by unfold Lib.byteCells; rw [List.map_drop]
theorem cells_len (l:List UInt8):(Lib.byteCells l).length = l.length:=by unfold Lib.byteCells; rw [List.length_map]
theorem bu_row (l:List UInt8) (s:ByteArray) (o:Nat) (tl:Array Value) (hle:o+s.size≤l.length) :
  ((bc (l.map UInt8.toNat) ++ tl).toList.take o ++ Lib.byteCells s.data.toList ++ (bc (l.map UInt8.toNat) ++ tl).toList.drop (o+s.size)).toArray = bc ((l.take o ++ s.data.toList ++ l.drop (o+s.size)).map UInt8.toNat) ++ tl:=by
 apply Array.toList_inj.1
 rw [List.toList_toArray,Array.toList_append,Array.toList_append,bc_cells,bc_cells,cells_app,cells_app,cells_take,cells_drop]
 rw [List.take_append_of_le_length (by rw [cells_len]; omega),List.drop_append_of_le_length (by rw [cells_len]; omega)]
 simp only [List.append_assoc]
theorem bu_copy {w:World} {B:Nat} {l:List UInt8} (h:BU w B l) (s:ByteArray) (o n cap:Nat) (hn:o+n = l.length) (hle:s.size≤n) :
  ∃ W',(Builtin.copy_ #[77,9] 3 #[.slice (some ⟨B,o,none⟩) n cap,.string s]).run Tryz.prog w = .ok (.int .i64 (s.size:Int)) W'∧BU W' B (l.take o ++ s.data.toList ++ l.drop (o+s.size))∧Only B w W':=by
 obtain ⟨tl,h⟩:=h
 have hr:=Lib.run_copy_row_string w 77 9 3 5 B o n cap s (bc (l.map UInt8.toNat) ++ tl) 5 Tryz.under_bytes (by kernel_rfl) h hle (by rw [Array.size_append,size_bc,List.length_map]; omega)
 rw [bu_row l s o tl (by omega)] at hr
 exact ⟨_,hr,⟨tl,setRow_heap _ _ _ _ _ _ h⟩,(Only.refl B w).setRow _⟩
theorem bu_set {w:World} {B:Nat} {l:List UInt8} (h:BU w B l) (j:Nat) (v:UInt8) (hj:j < l.length):BU (w.setCell ⟨B,j,none⟩ (.int .u8 (v.toNat:Int))) B (l.set j v):=by
 have:=BT.set h j v.toNat (by rw [List.length_map]; exact hj)
 unfold BU
 rw [List.map_set]
 exact this
theorem bu_next {w:World} {B:Nat} {u:List UInt8} {s:ByteArray} {k:Nat} (h:BU w B (u ++ List.replicate (s.size+k) 48)) (o n cap:Nat) (hu:u.length = o) (hn:s.size+k = n) :
  ∃ W',(Builtin.copy_ #[77,9] 3 #[.slice (some ⟨B,o,none⟩) n cap,.string s]).run Tryz.prog w = .ok (.int .i64 (s.size:Int)) W'∧BU W' B ((u ++ s.data.toList) ++ List.replicate k 48)∧Only B w W':=by
 obtain ⟨W',h1,h2,h3⟩:=bu_copy h s o n cap (by rw [List.length_append,List.length_replicate]; omega) (by omega)
 refine ⟨W',h1,?_,h3⟩
 have e:List.take o (u ++ List.replicate (s.size+k) (48:UInt8)) ++ s.data.toList ++ List.drop (o+s.size) (u ++ List.replicate (s.size+k) 48) = (u ++ s.data.toList) ++ List.replicate k 48:=by
  rw [← hu,List.take_left,List.drop_append,List.drop_eq_nil_of_le (by omega),List.nil_append,List.drop_replicate,show s.size+k - (u.length+s.size - u.length) = k by omega]
 rw [e] at h2
 exact h2
theorem bu_point {w:World} {B:Nat} {u:List UInt8} {k:Nat} (h:BU w B (u ++ List.replicate (1+k) 48)) (o:Nat) (hu:u.length = o) (v:UInt8):BU (w.setCell ⟨B,o,none⟩ (.int .u8 (v.toNat:Int))) B ((u ++ [v]) ++ List.replicate k 48):=by
 have h1:=bu_set h o v (by rw [List.length_append,List.length_replicate]; omega)
 have e:(u ++ List.replicate (1+k) 48).set o v = (u ++ [v]) ++ List.replicate k 48:=by
  rw [← hu,List.set_append_right _ _ (Nat.le_refl _),Nat.sub_self,Nat.add_comm 1 k,List.replicate_succ,List.set_cons_zero,List.append_assoc,List.singleton_append]
 rw [e] at h1
 exact h1
theorem Fs.only {w0 W W':World} {bs:List En} {B:Nat} (h:Fs w0 W bs) (k:Only B W W') (hB:w0.heap.size≤B) (hne:∀ x,x∈bs→x.b≠B):Fs w0 W' bs:=
 ⟨fun x hx=>by rw [k.block _ (hne x hx)]; exact h.bx x hx,Only.below h.fr k hB⟩
theorem bu_text {w:World} {B:Nat} {l:List UInt8} (h:BU w B l) (n cap:Nat) (hn:l.length = n):(convert 77 9 (.slice (some ⟨B,0,none⟩) n cap)).run Tryz.prog w = .ok (.string ⟨l.toArray⟩) w:=by
 rw [← hn]
 refine run_convert_bytes_back w 77 9 5 ⟨B,0,none⟩ _ _ Tryz.under_bytes Tryz.under_byte Tryz.under_string ?_
 intro j hj
 rw [Addr.add_lit,Nat.zero_add,BT.cell h j (by rw [List.length_map]; exact hj),List.getElem?_map,List.getElem?_eq_getElem hj]
 rfl
theorem dpl_in (g:Bool) (s:ByteArray) (x:Int) (sg dg:ByteArray) (a n:Nat) (m j:Nat) (o r:ByteArray) (K:Nat) (hm:(dg.size:Int)+x = (m:Int)) (hm1:1≤m) (hj:x = -(j:Int)) (hn:a+m+1+j = n) (hK:K = 1+j) (ho:dg.extract 0 m = o) (hr:dg.extract m dg.size = r) (w:World) (hx0:x < 0) (hx1:-65536≤x) (hsg:sg.size = a) (ha:a≤1) (hd1:1≤dg.size) (hdm:dg.size≤65536) (hn2:n≤65536) (st:ByteArray) (hst:Hid ((⟨(sg.data.toList ++ o.data.toList ++ [46] ++ r.data.toList).toArray⟩:ByteArray) = st))
  (HC:Hid (∀ W:World,Calls Tryz.prog 23 #[.agg #[.bool g,.string s,.int .i64 x]] W fun e W'=>e = .returned (.int .i64 0)∧Below W.heap.size W W'))
  (HS:Hid (∀ W:World,Calls Tryz.prog 55 #[.agg #[.bool g,.string s,.int .i64 x]] W fun e W'=>e = .returned (.tuple #[.string sg,.string dg])∧Below W.heap.size W W')) :
  Calls Tryz.prog 21 #[.agg #[.bool g,.string s,.int .i64 x]] w fun e w'=>e = .returned (.tuple #[.string st,.int .i64 0])∧Below w.heap.size w w':=by
 have hos:o.size = m:=by rw [← ho,ByteArray.size_extract]; omega
 have hrs:r.size = j:=by rw [← hr,ByteArray.size_extract]; omega
 have hw1:IntKind.wrap .i64 ((dg.size:Int)+x) = (m:Int):=by rw [IntKind.wrap_i64]; omega
 have hmax:max (m:Int) 1 = (m:Int):=by omega
 have hmax0:max (m:Int) 0 = (m:Int):=by omega
 obtain ⟨P,hP⟩:∃ P:Nat,P = a+m:=⟨_,rfl⟩
 obtain ⟨J,hJ⟩:∃ J:Nat,J = 1+j:=⟨_,rfl⟩
 have hw2:IntKind.wrap .i64 ((a:Int)+(m:Int)) = (P:Int):=by rw [IntKind.wrap_i64]; omega
 have hw3:IntKind.wrap .i64 (1 - x) = (J:Int):=by rw [IntKind.wrap_i64]; omega
 have hw4:IntKind.wrap .i64 ((P:Int)+(J:Int)) = (n:Int):=by rw [IntKind.wrap_i64]; omega
 have hKn:sg.size+(o.size+K) = n:=by omega
 have hn0:1≤n:=by omega
 have han:(a:Int)≤(n:Int):=by omega
 have hane:¬ n = a:=by omega
 have HJ:=hide (And.intro hj (And.intro hm (And.intro hn (And.intro hK (And.intro hP hJ)))))
 clear hj hm hn hK hP hJ
 have hbig:¬ (65536:Int) < (n:Int):=by omega
 have hnn:¬ 0≤x:=by omega
 have hsgi:(sg.size:Int) = (a:Int):=by omega
 go_enter Tryz.func21,Tryz.ntmps21
 go_wp2_with fail
 refine (unhide HC _).mono ?_
 rintro e w1 ⟨rfl,hb1⟩
 have hS:=(Fs.one w _ _).kept hb1
 clear hb1
 obtain ⟨⟨z1,z2,z3,-⟩,-⟩:=hS.cells
 go_wp2_with fail
 refine (unhide HS _).mono ?_
 rintro e w2 ⟨rfl,hb2⟩
 replace hS:=hS.kept hb2
 clear hb2 z1 z2 z3
 obtain ⟨⟨z1,z2,z3,-⟩,-⟩:=hS.cells
 go_wp2_with fail
 refine (noughts_any n hn0 (by omega) w2).mono ?_
 rintro e w3 ⟨rfl,hT,hb3⟩
 obtain ⟨B,hB⟩:∃ B,w2.heap.size+1 = B:=⟨_,rfl⟩
 rw [hB] at hT
 simp only [hB]
 have hB0:w.heap.size≤B:=by have:=hS.fr.size; omega
 have hBne:w.heap.size≠B:=by
  have h9:w.heap.size < w2.heap.size:=block_lt (hS.bx ⟨w.heap.size,#[.bool g,.string s,.int .i64 x],23⟩ (List.mem_cons_self ..))
  omega
 have hne1:∀ z,z∈[(⟨w.heap.size,#[.bool g,.string s,.int .i64 x],23⟩:En)]→z.b≠B:=fun z hz=>by simp at hz; subst hz; exact hBne
 replace hS:=hS.kept hb3
 have hU:BU w3 B ([] ++ List.replicate (sg.size+(o.size+K)) 48):=by
  rw [List.nil_append,hKn]
  exact bu_noughts hT
 clear hb3 z1 z2 z3 hT
 obtain ⟨W4,hr4,hU4,hO4⟩:=bu_next hU 0 n n rfl hKn
 rw [hsgi] at hr4
 have hS4:=hS.only hO4 hB0 hne1
 obtain ⟨⟨z1,z2,z3,-⟩,-⟩:=hS4.cells
 clear hS hU hO4
 go_wp2_with fail
 obtain ⟨W5,hr5,hU5,hO5⟩:=bu_next (w:=W4.drew) hU4 a (n - a) (n - a) (by rw [List.nil_append,Array.length_toList]; exact hsg) (by omega)
 rw [List.nil_append] at hU5
 have hS5:=hS4.drew.only hO5 hB0 hne1
 clear z1 z2 z3 hS4 hO5
 have hmd:(m:Int)≤(dg.size:Int):=by obtain ⟨h1,h2,_⟩:=unhide HJ; omega
 go_region_law (refine step_copyS rfl (.tmp 65) (.tmp 68) rfl rfl hr5 (by go_simp <;> omega) (by go_simp) ?_)
 have hPn:(P:Int) < (n:Int):=by obtain ⟨h1,h2,h3,h4,h5,h6⟩:=unhide HJ; omega
 have hul:(sg.data.toList ++ o.data.toList).length = P:=by
  obtain ⟨h1,h2,h3,h4,h5,h6⟩:=unhide HJ
  rw [List.length_append,Array.length_toList,Array.length_toList]
  show sg.size+o.size = P
  omega
 have hK1:K = 1+j:=by obtain ⟨h1,h2,h3,h4,h5,h6⟩:=unhide HJ; omega
 rw [hK1] at hU5
 have hcs:=BT.cell hU5 P (by rw [List.length_map,List.length_append,hul,List.length_replicate]; omega)
 have hfs:=BT.frozen hU5 P
 obtain ⟨W6,hW6⟩:∃ W6,W5.setCell ⟨B,P,none⟩ (.int .u8 46) = W6:=⟨_,rfl⟩
 have hU6:BU W6 B ((sg.data.toList ++ o.data.toList ++ [46]) ++ List.replicate (r.size+0) 48):=by
  rw [← hW6,hrs,Nat.add_zero]
  exact bu_point hU5 P hul 46
 have hS6:Fs w W6 [⟨w.heap.size,#[.bool g,.string s,.int .i64 x],23⟩]:=by
  rw [← hW6]
  exact hS5.only ((Only.refl B W5).setCell P _) hB0 hne1
 obtain ⟨q,hq⟩:∃ q:Nat,q = P+1:=⟨_,rfl⟩
 have hul2:(sg.data.toList ++ o.data.toList ++ [46]).length = q:=by rw [List.length_append,hul,hq]; rfl
 have hqn:(q:Int)≤(n:Int)∧¬ n = q∧IntKind.wrap .i64 ((n:Int) - (j:Int)) = (q:Int)∧r.size+0 = n - q:=by
  obtain ⟨h1,h2,h3,h4,h5,h6⟩:=unhide HJ
  rw [IntKind.wrap_i64]
  omega
 obtain ⟨hq1,hq2,hw5,hq3⟩:=hqn
 have hl6:(sg.data.toList ++ o.data.toList ++ [46] ++ r.data.toList ++ List.replicate 0 48).length = n:=by
  rw [List.replicate_zero,List.append_nil,List.length_append,hul2,Array.length_toList]
  show q+r.size = n
  omega
 clear hU5 hS5 hul hK1 hq
 go_wp2_with fail
 obtain ⟨W7,hr7,hU7,hO7⟩:=bu_next (w:=W6.drew) hU6 q (n - q) (n - q) hul2 hq3
 have hS7:=hS6.drew.only hO7 hB0 hne1
 clear hU6 hS6 hO7 hW6 hcs hfs
 go_region_law (refine step_copyS rfl (.tmp 82) (.tmp 85) rfl rfl hr7 (by go_simp <;> omega) (by go_simp) ?_)
 have hcv:=bu_text hU7 n n hl6
 rw [List.replicate_zero,List.append_nil,unhide hst] at hcv
 have HF:=hide hS7.fr
 clear hU7 hS7 hl6 hul2 hr7
 go_wp2
 go_ret2
 exact ⟨rfl,unhide HF⟩
def pt:List UInt8→Bool→List UInt8→Nat→Bool→Option (List UInt8×Nat×Bool)
 | [],_,o,p,q=>some (o,p,q)
 | c :: r,f,o,p,q=>
  if c.toNat = 101 then some (o,p,q)
  else if c.toNat = 45 then (if f then pt r false o p q else none)
  else if c.toNat = 46 then (if q then none else if o = [] then none else pt r false o p true)
  else if 48≤c.toNat∧c.toNat≤57 then pt r false (o ++ [c]) (if q then p+1 else p) q
  else none
end Go.Proofs.YtpmmapoabbpaiaaGreat
