/- Of what DigitsNamesRow stands on: DcHalf DcRou DcRouB Sub DgEx DcRoundsLaw DcCmpW DcCmp. -/
import Derived.Test.YtplihgoapiiigaaGreatDoorPas
import Derived.Test.YtplihgoapiiigaaGreatDoorPai
import Derived.Test.YtplihgoapiiigaaGreatDoorPau
import Derived.Test.YtplihgoapiiigaaGreatDoorPab
import Derived.Test.YtplihgoapiiigaaGreatDoorPav
import Derived.Deep.QuietTactic
import Derived.BigQuiet
import Derived.Test.YtplihgoapiiigaaGreatDoorPad
import Derived.Test.YtplihgoapiiigaaGreatDoorPag
import Derived.Test.YtplihgoapiiigaaGreatDoorPat
import Derived.Test.YtplihgoapiiigaaGreatDoorPal
import Derived.Test.YtplihgoapiiigaaGreatDoorPao
import Derived.Test.YtplihgoapiiigaaGreatDoorPaj
import Derived.Test.YtplihgoapiiigaaGreatDoorPah
import Derived.Deep.LoopGhost
import Derived.ChangeKeysEq
namespace Go.Proofs.YtplihgoapiiigaaGreatDoor
open Go.RowKit
set_option maxHeartbeats 4000000
set_option maxRecDepth 20000
def gOut (md:Nat) (g o:Bool) (c:Int):Bool:=match md with
 | 0=>decide (0 < c) || (decide (c = 0) && o)
 | 1=>decide (0≤c)
 | 2=>false
 | 3=>!g
 | _=>g
theorem goesOut_any (md:Nat) (g o:Bool) (c:Int) (hm:md≤4) (hc:c = -1∨c = 0∨c = 1) (w:World) :
  Calls Tryz.prog 43 #[.int .u8 (md:Int),.bool g,.bool o,.int .i64 c] w fun e w'=>e = .returned (.bool (gOut md g o c))∧w' = w:=by
 have h5:md = 0∨md = 1∨md = 2∨md = 3∨md = 4:=by omega
 rcases h5 with rfl|rfl|rfl|rfl|rfl <;> rcases hc with rfl|rfl|rfl <;> (go_enter Tryz.func43,Tryz.ntmps43; go_wp2; go_ret; exact ⟨rfl,rfl⟩)
def cmpS (s t:ByteArray):Int:=if Op.bytesLess s.toList t.toList then -1 else if s.toList == t.toList then 0 else 1
theorem cmpS_any (s t:ByteArray) (w:World) :
  Calls Tryz.prog 82 #[.string s,.string t] w fun e w'=>e = .returned (.int .i64 (cmpS s t))∧w' = w:=by
 unfold cmpS
 cases h1:Op.bytesLess s.toList t.toList <;> cases h2:s.toList == t.toList
 all_goals (go_enter Tryz.func82,Tryz.ntmps82; go_wp2; go_ret; exact ⟨rfl,rfl⟩)
theorem half_less (u:ByteArray) (n:Int) (h:(u.size:Int) < n) (w:World):Calls Tryz.prog 44 #[.string u,.int .i64 n] w fun e w'=>e = .returned (.int .i64 (-1))∧w' = w:=by
 go_enter Tryz.func44,Tryz.ntmps44
 go_wp2
 go_ret
 exact ⟨rfl,rfl⟩
theorem half_in (u:ByteArray) (n:Int) (h:n≤(u.size:Int)) (w:World):Calls Tryz.prog 44 #[.string u,.int .i64 n] w fun e w'=>e = .returned (.int .i64 (cmpS u ⟨#[53]⟩))∧w' = w:=by
 go_enter Tryz.func44,Tryz.ntmps44
 go_wp2_with fail
 refine (cmpS_any u _ w).mono ?_
 rintro e w1 ⟨rfl,rfl⟩
 go_wp2
 go_ret
 exact ⟨rfl,rfl⟩
theorem cmp5_in (u:ByteArray):cmpS u ⟨#[53]⟩ = -1∨cmpS u ⟨#[53]⟩ = 0∨cmpS u ⟨#[53]⟩ = 1:=by
 unfold cmpS
 split
 ·exact Or.inl rfl
 ·split
  ·exact Or.inr (Or.inl rfl)
  ·exact Or.inr (Or.inr rfl)
structure Rou (w W:World) (g:Bool) (s:ByteArray) (x:Int) (zs:List Nat):Prop where
 d:W.heap[w.heap.size]? = some (.cells #[.bool g,.string s,.int .i64 x] 30 (0,0))
 r:W.heap[w.heap.size+1]? = some (.cells #[.bool false,.string ⟨#[]⟩,.int .i64 0] 30 (0,0))
 k:BRow W (w.heap.size+1+1) zs
 fr:Below w.heap.size w W
theorem Rou.kept {w W W':World} {g:Bool} {s:ByteArray} {x:Int} {zs:List Nat} (h:Rou w W g s x zs) (hb:Below W.heap.size W W'):Rou w W' g s x zs:=by
 have hl:=h.k.lt
 exact ⟨(hb.block _ (by omega)).trans h.d,(hb.block _ (by omega)).trans h.r,(hb.block _ hl).trans h.k,gr_trans h.fr hb⟩
theorem Rou.only {w W W':World} {g:Bool} {s:ByteArray} {x:Int} {zs ys:List Nat} (h:Rou w W g s x zs) (ho:Only (w.heap.size+1+1) W W') (hk:BRow W' (w.heap.size+1+1) ys):Rou w W' g s x ys:=
 ⟨(ho.block _ (by omega)).trans h.d,(ho.block _ (by omega)).trans h.r,hk,Only.below h.fr ho (by omega)⟩
theorem Rou.cd {w W:World} {g:Bool} {s:ByteArray} {x:Int} {zs:List Nat} (h:Rou w W g s x zs):W.cell? ⟨w.heap.size,0,none⟩ = some (.bool g)∧W.cell? ⟨w.heap.size,1,none⟩ = some (.string s)∧W.cell? ⟨w.heap.size,2,none⟩ = some (.int .i64 x):=
 ⟨by rw [cell_of_row W _ 0 _ _ _ h.d]; rfl,by rw [cell_of_row W _ 1 _ _ _ h.d]; rfl,by rw [cell_of_row W _ 2 _ _ _ h.d]; rfl⟩
theorem Rou.cr {w W:World} {g:Bool} {s:ByteArray} {x:Int} {zs:List Nat} (h:Rou w W g s x zs):W.cell? ⟨w.heap.size+1,0,none⟩ = some (.bool false)∧W.cell? ⟨w.heap.size+1,1,none⟩ = some (.string ⟨#[]⟩)∧W.cell? ⟨w.heap.size+1,2,none⟩ = some (.int .i64 0)∧∀ j,W.frozen? ⟨w.heap.size+1,j,none⟩ = false:=
 ⟨by rw [cell_of_row W _ 0 _ _ _ h.r]; rfl,by rw [cell_of_row W _ 1 _ _ _ h.r]; rfl,by rw [cell_of_row W _ 2 _ _ _ h.r]; rfl,fun j=>frozen_of_row W _ j _ _ h.r⟩
theorem and_one_b (d:Nat) (h:d < 10):Go.bits BinOp.and IntKind.u8 (48+(d:Int)) 1 = ((d % 2:Nat):Int):=by
 have:d = 0∨d = 1∨d = 2∨d = 3∨d = 4∨d = 5∨d = 6∨d = 7∨d = 8∨d = 9:=by omega
 rcases this with rfl|rfl|rfl|rfl|rfl|rfl|rfl|rfl|rfl|rfl <;> decide
theorem onlyN (w:World) (B n:Nat):Only B w (w.drewN n):=⟨rfl,rfl,rfl,rfl,fun _ _=>rfl⟩
theorem Only.setRow {B:Nat} {a w:World} (h:Only B a w) (cs:Array Value):Only B a (w.setRow B cs):=⟨h.os,h.tape,h.output,by rw [← h.size]; simp,fun k hk=>(setRow_other _ _ _ _ hk).trans (h.block k hk)⟩
theorem row_pre {s:ByteArray} {k:Nat} (hd:AllD s s.size):((bc (48 :: List.replicate k 0)).toList.take 1 ++ Lib.byteCells (s.data.toList.take k) ++ (bc (48 :: List.replicate k 0)).toList.drop (1+k)).toArray = bc ((0 :: (digs s).take k).map (48+·)):=by
 apply Array.toList_inj.1
 have e1:(bc (48 :: List.replicate k 0)).toList.drop (1+k) = []:=List.drop_eq_nil_of_le (by simp [bc]; omega)
 have e2:(bc (48 :: List.replicate k 0)).toList.take 1 = [.int .u8 48]:=by simp [bc]
 rw [List.toList_toArray,e1,e2,List.append_nil]
 simp only [bc,List.map_cons,List.cons_append,List.nil_append]
 congr 1
 unfold Lib.byteCells digs
 rw [← List.map_take,List.map_map,List.map_map]
 apply List.map_congr_left
 intro b hb
 obtain ⟨i,hi,rfl⟩:=List.getElem_of_mem (List.mem_of_mem_take hb)
 have hs:i < s.size:=by simpa using hi
 have:=hd i hs hs
 have e:(s.data.toList[i]'hi).toNat = (s[i]'hs).toNat:=by rw [Array.getElem_toList]; rfl
 simp only [Function.comp]
 rw [e]
 congr 1
 omega
theorem digs_chars {es:List Nat} (h:Pl.Dig es):digs ⟨(chars es).toArray⟩ = es:=by
 unfold digs chars
 simp only [List.map_map]
 conv=>rhs; rw [← List.map_id es]
 apply List.map_congr_left
 intro d hd
 have:=h d hd
 simp only [Function.comp,id]
 rw [UInt8.toNat_ofNat_of_lt' (show 48+d < 256 by omega)]
 omega
theorem all_chars {es:List Nat} (h:Pl.Dig es):AllD ⟨(chars es).toArray⟩ (⟨(chars es).toArray⟩:ByteArray).size:=by
 intro j hj _
 have hj':j < es.length:=by simpa [chars,ByteArray.size] using hj
 have:=h _ (List.getElem_mem hj')
 have e:((⟨(chars es).toArray⟩:ByteArray)[j]'hj).toNat = 48+es[j]:=by
  rw [ByteArray.getElem_eq_getElem_data]
  simp only [List.getElem_toArray,chars,List.getElem_map]
  rw [UInt8.toNat_ofNat_of_lt' (show 48+es[j] < 256 by omega)]
 omega
theorem size_chars (es:List Nat):(⟨(chars es).toArray⟩:ByteArray).size = es.length:=by simp [chars,ByteArray.size]
theorem MkA.parts {g:Bool} {N:Nat} {x:Int} {V:Value} (h:MkA g N x V):∃ (g2:Bool) (s2:ByteArray) (x2 e2:Int),V = .tuple #[.agg #[.bool g2,.string s2,.int .i64 x2],.int .i64 e2]:=by
 rcases h with ⟨_,rfl⟩|⟨t,n,z,_,_,_,⟨_,rfl⟩|⟨_,rfl⟩⟩ <;> exact ⟨_,_,_,_,rfl⟩
def RdA (g:Bool) (N:Nat) (x:Int) (e:Ending):Prop:=∃ (g2:Bool) (s2:ByteArray) (x2 e2:Int),MkA g N x (.tuple #[.agg #[.bool g2,.string s2,.int .i64 x2],.int .i64 e2])∧e = .returned (.tuple #[.agg #[.bool g2,.string s2,.int .i64 x2],.bool false,.int .i64 e2])
theorem rounded_A (g:Bool) (s:ByteArray) (x:Int) (md k c d:Nat) (w:World) (hk:k+c = s.size) (hk1:0 < k) (hc1:0 < c) (hm:s.size≤65536) (hmd:md≤4) (hds:Hid (AllD s s.size)) (hd:∀ h:k - 1 < s.size,(s[k - 1]'h).toNat = 48+d) (hd10:d < 10) (o:Bool) (ho:((d:Int) % 2 == 1) = o) (N:Nat) (hN:Hid (Pl.dval ((digs s).take k) 0+(if gOut md g o (cmpS (s.extract k s.size) ⟨#[53]⟩) then 1 else 0) = N)) (hx0:-1073741824≤x) (hx1:x≤1073741824) :
  Calls Tryz.prog 23 #[.agg #[.bool g,.string s,.int .i64 x],.int .i64 (c:Int),.int .u8 (md:Int)] w fun e w'=>RdA g N (x+(c:Int)) e∧Below w.heap.size w w':=by
 have hmk:=make_bytes (1+(k:Int)) (k+1) (by omega) (by omega)
 have hsz:(s.size:Int) - (c:Int) = (k:Int):=by omega
 have hkp:(0:Int) < (k:Int):=by omega
 have hb0:=bc_at (List.replicate (k+1) 0) 0 (by simp)
 simp only [List.getElem?_replicate,Nat.zero_lt_succ,if_true,Option.getD_some] at hb0
 obtain ⟨W1,hW1⟩:∃ W1,W1 = (((w.alloc (.cells #[.bool g,.string s,.int .i64 x] 30)).alloc (.cells #[.bool false,.string ⟨#[]⟩,.int .i64 0] 30)).alloc (.cells ((bc (List.replicate (k+1) 0)).setIfInBounds 0 (.int .u8 48)) 5)):=⟨_,rfl⟩
 have hR1:Rou w W1 g s x (48 :: List.replicate k 0):=by
  rw [hW1]
  refine ⟨?_,?_,?_,gr_trans (gr_alloc w _) (gr_trans (gr_alloc _ _) (gr_alloc _ _))⟩
  ·rw [(gr_alloc _ _).block _ (by simp only [World.size_alloc]; omega),(gr_alloc _ _).block _ (by simp only [World.size_alloc]; omega)]; exact heap_alloc_new w _
  ·rw [(gr_alloc _ _).block _ (by simp only [World.size_alloc]; omega)]
   have:=heap_alloc_new (w.alloc (.cells #[.bool g,.string s,.int .i64 x] 30)) (.cells #[.bool false,.string ⟨#[]⟩,.int .i64 0] 30)
   rw [World.size_alloc] at this
   exact this
  ·have:=BRow.made ((w.alloc (.cells #[.bool g,.string s,.int .i64 x] 30)).alloc (.cells #[.bool false,.string ⟨#[]⟩,.int .i64 0] 30)) (48 :: List.replicate k 0)
   rw [World.size_alloc,World.size_alloc] at this
   have e:(bc (List.replicate (k+1) 0)).setIfInBounds 0 (.int .u8 48) = bc (48 :: List.replicate k 0):=by
    rw [show (Value.int .u8 48) = .int .u8 ((48:Nat):Int) from rfl,bc_set,List.replicate_succ]; rfl
   rw [e]
   exact this
 go_enter Tryz.func23,Tryz.ntmps23
 go_wp2
 rw [← hW1]
 clear hW1 hmk hb0
 have hcp:=copy_pre W1.drew (w.heap.size+1+1) 1 k k s (bc (48 :: List.replicate k 0)) 5 hR1.k (by omega) (by rw [size_bc]; simp; omega)
 rw [row_pre (unhide hds)] at hcp
 obtain ⟨W2,hW2⟩:∃ W2,W2 = W1.drew.setRow (w.heap.size+1+1) (bc ((0 :: (digs s).take k).map (48+·))):=⟨_,rfl⟩
 rw [← hW2] at hcp
 have hR2:Rou w W2 g s x ((0 :: (digs s).take k).map (48+·)):=by
  rw [hW2]
  exact hR1.only ((Only.refl _ W1).drew.setRow _) (setRow_brow (zs:=48 :: List.replicate k 0) hR1.k)
 clear hW2
 obtain ⟨z0,z1,z2⟩:=hR1.cd
 have hk0:¬ k = 0:=by omega
 have h1k:(1:Int)≤(k:Int)+1:=by omega
 go_region_law (refine step_copy rfl (.tmp 30) (.tmp 32) rfl rfl hcp ?_)
 clear hcp z0 z1 z2 h1k hR1
 have hlD:(digs s).length = s.size:=by simp [digs]
 have hck:=hR2.k.cell k (by simp; omega)
 have hat:(((0 :: (digs s).take k).map (48+·))[k]?.getD 0:Nat) = 48+d:=by
  obtain ⟨j,rfl⟩:∃ j,k = j+1:=⟨k - 1,by omega⟩
  have h1:=(unhide hds).digS.2.2 j (by omega)
  have h2:=hd (by omega)
  have h3:(s[j+1 - 1]'(by omega)).toNat = (s[j]'(by omega)).toNat:=rfl
  rw [h3,h1] at h2
  rw [List.map_cons,List.getElem?_cons_succ,List.getElem?_map,List.getElem?_take,if_pos (by omega),List.getElem?_eq_getElem (by omega)]
  rw [List.getElem?_eq_getElem (by omega)] at h2
  simpa using h2
 rw [hat] at hck
 have han:=and_one_b d hd10
 have hki:(k:Int) < (k:Int)+1:=by omega
 go_wp2
 clear hck hat han hki ho
 have hus:(s.extract k s.size).size = c:=by rw [ByteArray.size_extract]; omega
 have HH:=hide (half_in (s.extract k s.size) (c:Int) (by rw [hus]; exact Int.le_refl _))
 have HG:=hide (goesOut_any md g o (cmpS (s.extract k s.size) ⟨#[53]⟩) hmd (cmp5_in _))
 obtain ⟨z0,z1,z2⟩:=hR2.cd
 have hks:(k:Int)≤(s.size:Int):=by omega
 go_quiet (first|(go_at_call 44; exact Calls.quiet_of_same (unhide HH _))|(go_at_call 43; exact Calls.quiet_of_same (unhide HG _)))
 have hR3:Rou w (W2.drewN nq) g s x ((0 :: (digs s).take k).map (48+·)):=hR2.only (onlyN W2 _ nq) (by exact hR2.k)
 generalize W2.drewN nq = W3 at hR3
 clear hR2 z0 z1 z2 HH HG
 have hD0:Pl.Dig (0 :: (digs s).take k):=fun d9 h=>by
  rw [List.mem_cons] at h
  rcases h with rfl|h
  ·omega
  ·exact (unhide hds).digS.2.1 _ (List.mem_of_mem_take h)
 have hL0:(0 :: (digs s).take k).length = k+1:=by simp; omega
 have hV0:Pl.dval (0 :: (digs s).take k) 0 = Pl.dval ((digs s).take k) 0:=by rw [Pl.dval_cons]; omega
 cases hgo:gOut md g o (cmpS (s.extract k s.size) ⟨#[53]⟩)
 ·have hVl:Pl.dval (0 :: (digs s).take k) 0 = N:=by have:=unhide hN; rw [hgo] at this; rw [hV0]; simpa using this
  generalize 0 :: (digs s).take k = es at hR3 hD0 hL0 hVl
  obtain ⟨W4,hW4⟩:∃ W4,W3 = W4:=⟨_,rfl⟩
  subst hW4
  have hR4:=hR3
  have hDg:=hD0
  have hLn:=hL0
  clear hR3 hD0 hL0 hV0 hN
  obtain ⟨V,hA,HV⟩:=dmake_c g ⟨(chars es).toArray⟩ (x+(c:Int)) (by omega) (by omega) (by rw [size_chars]; omega) (all_chars hDg)
  obtain ⟨g2,s2,x2,e2,rfl⟩:=hA.parts
  have hvs:valS ⟨(chars es).toArray⟩ = N:=by unfold valS; rw [digs_chars hDg]; exact hVl
  rw [hvs] at hA
  have HA:=hide hA
  have HV2:=hide HV
  have htx:=text_of W3 (w.heap.size+1+1) (k+1) es hR4.k hDg hLn
  generalize (⟨(chars es).toArray⟩:ByteArray) = tx at htx HV2
  clear hA HV hvs
  obtain ⟨z0,z1,z2⟩:=hR4.cd
  have hwx:IntKind.i64.wrap (x+(c:Int)) = x+(c:Int):=by rw [IntKind.wrap_i64]; omega
  go_wp2_with fail
  refine (unhide HV2 _).mono ?_
  rintro e w5 ⟨rfl,hb5⟩
  have hR5:=hR4.kept hb5
  clear hR4 hb5 htx z0 z1 z2
  obtain ⟨W6,hW6⟩:∃ W6,w5.alloc (.cells #[.bool g2,.string s2,.int .i64 x2] 30) = W6:=⟨_,rfl⟩
  have hR6:Rou w W6 g s x (es.map (48+·)):=by rw [← hW6]; exact hR5.kept (gr_alloc _ _)
  have hnb:W6.heap[w5.heap.size]? = some (.cells #[.bool g2,.string s2,.int .i64 x2] 30 (0,0)):=by rw [← hW6]; exact heap_alloc_new w5 _
  have hn0:W6.cell? ⟨w5.heap.size,0,none⟩ = some (.bool g2):=by rw [cell_of_row W6 _ 0 _ _ _ hnb]; rfl
  have hn1:W6.cell? ⟨w5.heap.size,1,none⟩ = some (.string s2):=by rw [cell_of_row W6 _ 1 _ _ _ hnb]; rfl
  have hn2:W6.cell? ⟨w5.heap.size,2,none⟩ = some (.int .i64 x2):=by rw [cell_of_row W6 _ 2 _ _ _ hnb]; rfl
  clear hR5 hnb
  obtain ⟨z0,z1,z2,zf⟩:=hR6.cr
  have fz0:=zf 0
  have fz1:=zf 1
  have fz2:=zf 2
  clear zf
  go_wp2
  exact bodyPost_ret (v:=.tuple #[.agg #[.bool g2,.string s2,.int .i64 x2],.bool false,.int .i64 e2]) (by simp [results,Tryz.results23,go_sem,z0,z1,z2]) rfl ⟨⟨g2,s2,x2,e2,unhide HA,rfl⟩,((hR6.fr.setCell (by simp) _).setCell (by simp) _).setCell (by simp) _⟩
 ·have hVl0:Pl.dval (0 :: (digs s).take k) 0+1 = N:=by have:=unhide hN; rw [hgo] at this; rw [hV0]; simpa using this
  go_wp2_with fail
  refine (addOne_any (w.heap.size+1+1) (k+1) (0 :: (digs s).take k) W3 (hide hL0) (by omega) (by omega) (hide hD0) (hide rfl) hR3.k).mono ?_
  rintro e W4 ⟨rfl,⟨es,hLn,hDg,hVe,hRw⟩,hO⟩
  have hR4:=hR3.only hO hRw
  have hVl:Pl.dval es 0 = N:=by rw [hVe]; exact hVl0
  clear hR3 hD0 hL0 hV0 hN hRw hO hVe hVl0
  obtain ⟨V,hA,HV⟩:=dmake_c g ⟨(chars es).toArray⟩ (x+(c:Int)) (by omega) (by omega) (by rw [size_chars]; omega) (all_chars hDg)
  obtain ⟨g2,s2,x2,e2,rfl⟩:=hA.parts
  have hvs:valS ⟨(chars es).toArray⟩ = N:=by unfold valS; rw [digs_chars hDg]; exact hVl
  rw [hvs] at hA
  have HA:=hide hA
  have HV2:=hide HV
  have htx:=text_of W4 (w.heap.size+1+1) (k+1) es hR4.k hDg hLn
  generalize (⟨(chars es).toArray⟩:ByteArray) = tx at htx HV2
  clear hA HV hvs
  obtain ⟨z0,z1,z2⟩:=hR4.cd
  have hwx:IntKind.i64.wrap (x+(c:Int)) = x+(c:Int):=by rw [IntKind.wrap_i64]; omega
  go_wp2_with fail
  refine (unhide HV2 _).mono ?_
  rintro e w5 ⟨rfl,hb5⟩
  have hR5:=hR4.kept hb5
  clear hR4 hb5 htx z0 z1 z2
  obtain ⟨W6,hW6⟩:∃ W6,w5.alloc (.cells #[.bool g2,.string s2,.int .i64 x2] 30) = W6:=⟨_,rfl⟩
  have hR6:Rou w W6 g s x (es.map (48+·)):=by rw [← hW6]; exact hR5.kept (gr_alloc _ _)
  have hnb:W6.heap[w5.heap.size]? = some (.cells #[.bool g2,.string s2,.int .i64 x2] 30 (0,0)):=by rw [← hW6]; exact heap_alloc_new w5 _
  have hn0:W6.cell? ⟨w5.heap.size,0,none⟩ = some (.bool g2):=by rw [cell_of_row W6 _ 0 _ _ _ hnb]; rfl
  have hn1:W6.cell? ⟨w5.heap.size,1,none⟩ = some (.string s2):=by rw [cell_of_row W6 _ 1 _ _ _ hnb]; rfl
  have hn2:W6.cell? ⟨w5.heap.size,2,none⟩ = some (.int .i64 x2):=by rw [cell_of_row W6 _ 2 _ _ _ hnb]; rfl
  clear hR5 hnb
  obtain ⟨z0,z1,z2,zf⟩:=hR6.cr
  have fz0:=zf 0
  have fz1:=zf 1
  have fz2:=zf 2
  clear zf
  go_wp2
  exact bodyPost_ret (v:=.tuple #[.agg #[.bool g2,.string s2,.int .i64 x2],.bool false,.int .i64 e2]) (by simp [results,Tryz.results23,go_sem,z0,z1,z2]) rfl ⟨⟨g2,s2,x2,e2,unhide HA,rfl⟩,((hR6.fr.setCell (by simp) _).setCell (by simp) _).setCell (by simp) _⟩
theorem rounded_B (g:Bool) (s:ByteArray) (x:Int) (md c:Nat) (w:World) (hc:s.size≤c) (hc1:0 < c) (hc2:c≤2147483648) (hmd:md≤4) (c5:Int) (h5:c5 = -1∨c5 = 0∨c5 = 1) (HH:Hid (∀ W:World,Calls Tryz.prog 44 #[.string s,.int .i64 (c:Int)] W fun e w'=>e = .returned (.int .i64 c5)∧w' = W)) (N:Nat) (hN:Hid ((if gOut md g false c5 then 1 else 0) = N)) (hx0:-1073741824≤x) (hx1:x≤1073741824) :
  Calls Tryz.prog 23 #[.agg #[.bool g,.string s,.int .i64 x],.int .i64 (c:Int),.int .u8 (md:Int)] w fun e w'=>RdA g N (x+(c:Int)) e∧Below w.heap.size w w':=by
 have hmk:=make_bytes 1 1 (by omega) (by omega)
 have hsz:max ((s.size:Int) - (c:Int)) 0 = 0:=by omega
 have hb0:(bc [0])[0]? = some (.int .u8 0):=rfl
 obtain ⟨W1,hW1⟩:∃ W1,W1 = (((w.alloc (.cells #[.bool g,.string s,.int .i64 x] 30)).alloc (.cells #[.bool false,.string ⟨#[]⟩,.int .i64 0] 30)).alloc (.cells ((bc ([0])).setIfInBounds 0 (.int .u8 48)) 5)):=⟨_,rfl⟩
 have hR1:Rou w W1 g s x ([48]):=by
  rw [hW1]
  refine ⟨?_,?_,?_,gr_trans (gr_alloc w _) (gr_trans (gr_alloc _ _) (gr_alloc _ _))⟩
  ·rw [(gr_alloc _ _).block _ (by simp only [World.size_alloc]; omega),(gr_alloc _ _).block _ (by simp only [World.size_alloc]; omega)]; exact heap_alloc_new w _
  ·rw [(gr_alloc _ _).block _ (by simp only [World.size_alloc]; omega)]
   have:=heap_alloc_new (w.alloc (.cells #[.bool g,.string s,.int .i64 x] 30)) (.cells #[.bool false,.string ⟨#[]⟩,.int .i64 0] 30)
   rw [World.size_alloc] at this
   exact this
  ·have:=BRow.made ((w.alloc (.cells #[.bool g,.string s,.int .i64 x] 30)).alloc (.cells #[.bool false,.string ⟨#[]⟩,.int .i64 0] 30)) ([48])
   rw [World.size_alloc,World.size_alloc] at this
   have e:(bc ([0])).setIfInBounds 0 (.int .u8 48) = bc ([48]):=by
    rw [show (Value.int .u8 48) = .int .u8 ((48:Nat):Int) from rfl,bc_set]; rfl
   rw [e]
   exact this
 go_enter Tryz.func23,Tryz.ntmps23
 go_wp2
 rw [← hW1]
 clear hW1 hmk hb0
 have hcp:=copy_pre W1.drew (w.heap.size+1+1) 0 0 0 s (bc ([48])) 5 hR1.k (by omega) (by simp)
 have hrow:((bc ([48])).toList.take 0 ++ Lib.byteCells (s.data.toList.take 0) ++ (bc ([48])).toList.drop (0+0)).toArray = bc ([0].map (48+·)):=by
  apply Array.toList_inj.1
  simp [bc,Lib.byteCells]
 rw [hrow] at hcp
 obtain ⟨W2,hW2⟩:∃ W2,W2 = W1.drew.setRow (w.heap.size+1+1) (bc ([0].map (48+·))):=⟨_,rfl⟩
 rw [← hW2] at hcp
 have hR2:Rou w W2 g s x ([0].map (48+·)):=by
  rw [hW2]
  exact hR1.only ((Only.refl _ W1).drew.setRow _) (setRow_brow (zs:=[48]) hR1.k)
 clear hW2 hrow
 obtain ⟨z0,z1,z2⟩:=hR1.cd
 go_region_law (refine step_copy rfl (.tmp 30) (.tmp 32) rfl rfl hcp ?_)
 clear hcp z0 z1 z2 hR1
 have hck:=hR2.k.cell 0 (by simp)
 have hat:(([0].map (48+·))[0]?.getD 0:Nat) = 48:=rfl
 rw [hat] at hck
 have han:Go.bits BinOp.and IntKind.u8 48 1 = 0:=by decide
 go_wp2
 clear hck hat han
 have HG:=hide (goesOut_any md g false c5 hmd h5)
 obtain ⟨z0,z1,z2⟩:=hR2.cd
 go_quiet (first|(go_at_call 44; exact Calls.quiet_of_same (unhide HH _))|(go_at_call 43; exact Calls.quiet_of_same (unhide HG _)))
 have hR3:Rou w (W2.drewN nq) g s x ([0].map (48+·)):=hR2.only (onlyN W2 _ nq) (by exact hR2.k)
 generalize W2.drewN nq = W3 at hR3
 clear hR2 z0 z1 z2 HG
 have hD0:Pl.Dig [0]:=fun d9 h=>by simp at h; omega
 have hL0:[0].length = 1:=rfl
 have hV0:Pl.dval [0] 0 = 0:=rfl
 cases hgo:gOut md g false c5
 ·have hVl:Pl.dval ([0]) 0 = N:=by have:=unhide hN; rw [hgo] at this; rw [hV0]; simpa using this
  generalize [0] = es at hR3 hD0 hL0 hVl
  obtain ⟨W4,hW4⟩:∃ W4,W3 = W4:=⟨_,rfl⟩
  subst hW4
  have hR4:=hR3
  have hDg:=hD0
  have hLn:=hL0
  clear hR3 hD0 hL0 hV0 hN
  obtain ⟨V,hA,HV⟩:=dmake_c g ⟨(chars es).toArray⟩ (x+(c:Int)) (by omega) (by omega) (by rw [size_chars]; omega) (all_chars hDg)
  obtain ⟨g2,s2,x2,e2,rfl⟩:=hA.parts
  have hvs:valS ⟨(chars es).toArray⟩ = N:=by unfold valS; rw [digs_chars hDg]; exact hVl
  rw [hvs] at hA
  have HA:=hide hA
  have HV2:=hide HV
  have htx:=text_of W3 (w.heap.size+1+1) 1 es hR4.k hDg hLn
  generalize (⟨(chars es).toArray⟩:ByteArray) = tx at htx HV2
  clear hA HV hvs
  obtain ⟨z0,z1,z2⟩:=hR4.cd
  have hwx:IntKind.i64.wrap (x+(c:Int)) = x+(c:Int):=by rw [IntKind.wrap_i64]; omega
  go_wp2_with fail
  refine (unhide HV2 _).mono ?_
  rintro e w5 ⟨rfl,hb5⟩
  have hR5:=hR4.kept hb5
  clear hR4 hb5 htx z0 z1 z2
  obtain ⟨W6,hW6⟩:∃ W6,w5.alloc (.cells #[.bool g2,.string s2,.int .i64 x2] 30) = W6:=⟨_,rfl⟩
  have hR6:Rou w W6 g s x (es.map (48+·)):=by rw [← hW6]; exact hR5.kept (gr_alloc _ _)
  have hnb:W6.heap[w5.heap.size]? = some (.cells #[.bool g2,.string s2,.int .i64 x2] 30 (0,0)):=by rw [← hW6]; exact heap_alloc_new w5 _
  have hn0:W6.cell? ⟨w5.heap.size,0,none⟩ = some (.bool g2):=by rw [cell_of_row W6 _ 0 _ _ _ hnb]; rfl
  have hn1:W6.cell? ⟨w5.heap.size,1,none⟩ = some (.string s2):=by rw [cell_of_row W6 _ 1 _ _ _ hnb]; rfl
  have hn2:W6.cell? ⟨w5.heap.size,2,none⟩ = some (.int .i64 x2):=by rw [cell_of_row W6 _ 2 _ _ _ hnb]; rfl
  clear hR5 hnb
  obtain ⟨z0,z1,z2,zf⟩:=hR6.cr
  have fz0:=zf 0
  have fz1:=zf 1
  have fz2:=zf 2
  clear zf
  go_wp2
  exact bodyPost_ret (v:=.tuple #[.agg #[.bool g2,.string s2,.int .i64 x2],.bool false,.int .i64 e2]) (by simp [results,Tryz.results23,go_sem,z0,z1,z2]) rfl ⟨⟨g2,s2,x2,e2,unhide HA,rfl⟩,((hR6.fr.setCell (by simp) _).setCell (by simp) _).setCell (by simp) _⟩
 ·have hVl0:Pl.dval ([0]) 0+1 = N:=by have:=unhide hN; rw [hgo] at this; rw [hV0]; simpa using this
  go_wp2_with fail
  refine (addOne_any (w.heap.size+1+1) 1 ([0]) W3 (hide hL0) (by omega) (by omega) (hide hD0) (hide rfl) hR3.k).mono ?_
  rintro e W4 ⟨rfl,⟨es,hLn,hDg,hVe,hRw⟩,hO⟩
  have hR4:=hR3.only hO hRw
  have hVl:Pl.dval es 0 = N:=by rw [hVe]; exact hVl0
  clear hR3 hD0 hL0 hV0 hN hRw hO hVe hVl0
  obtain ⟨V,hA,HV⟩:=dmake_c g ⟨(chars es).toArray⟩ (x+(c:Int)) (by omega) (by omega) (by rw [size_chars]; omega) (all_chars hDg)
  obtain ⟨g2,s2,x2,e2,rfl⟩:=hA.parts
  have hvs:valS ⟨(chars es).toArray⟩ = N:=by unfold valS; rw [digs_chars hDg]; exact hVl
  rw [hvs] at hA
  have HA:=hide hA
  have HV2:=hide HV
  have htx:=text_of W4 (w.heap.size+1+1) 1 es hR4.k hDg hLn
  generalize (⟨(chars es).toArray⟩:ByteArray) = tx at htx HV2
  clear hA HV hvs
  obtain ⟨z0,z1,z2⟩:=hR4.cd
  have hwx:IntKind.i64.wrap (x+(c:Int)) = x+(c:Int):=by rw [IntKind.wrap_i64]; omega
  go_wp2_with fail
  refine (unhide HV2 _).mono ?_
  rintro e w5 ⟨rfl,hb5⟩
  have hR5:=hR4.kept hb5
  clear hR4 hb5 htx z0 z1 z2
  obtain ⟨W6,hW6⟩:∃ W6,w5.alloc (.cells #[.bool g2,.string s2,.int .i64 x2] 30) = W6:=⟨_,rfl⟩
  have hR6:Rou w W6 g s x (es.map (48+·)):=by rw [← hW6]; exact hR5.kept (gr_alloc _ _)
  have hnb:W6.heap[w5.heap.size]? = some (.cells #[.bool g2,.string s2,.int .i64 x2] 30 (0,0)):=by rw [← hW6]; exact heap_alloc_new w5 _
  have hn0:W6.cell? ⟨w5.heap.size,0,none⟩ = some (.bool g2):=by rw [cell_of_row W6 _ 0 _ _ _ hnb]; rfl
  have hn1:W6.cell? ⟨w5.heap.size,1,none⟩ = some (.string s2):=by rw [cell_of_row W6 _ 1 _ _ _ hnb]; rfl
  have hn2:W6.cell? ⟨w5.heap.size,2,none⟩ = some (.int .i64 x2):=by rw [cell_of_row W6 _ 2 _ _ _ hnb]; rfl
  clear hR5 hnb
  obtain ⟨z0,z1,z2,zf⟩:=hR6.cr
  have fz0:=zf 0
  have fz1:=zf 1
  have fz2:=zf 2
  clear zf
  go_wp2
  exact bodyPost_ret (v:=.tuple #[.agg #[.bool g2,.string s2,.int .i64 x2],.bool false,.int .i64 e2]) (by simp [results,Tryz.results23,go_sem,z0,z1,z2]) rfl ⟨⟨g2,s2,x2,e2,unhide HA,rfl⟩,((hR6.fr.setCell (by simp) _).setCell (by simp) _).setCell (by simp) _⟩
theorem Box.but {w w':World} {p C:Nat} {v:Value} (h:Box w p v) (k:Only C w w') (hne:p≠C):Box w' p v:=by
 unfold Box; rw [k.block p hne]; exact h
theorem digits_ex:∀ m:Nat,∃ ds,Pl.Dig ds∧Pl.Lead ds∧Pl.dval ds 0 = m:=by
 intro m
 induction m using Nat.strongRecOn with
 | ind m ih=>
  by_cases h:m < 10
  ·exact ⟨[m],fun d hd=>by simp at hd; omega,⟨by simp,Or.inr rfl⟩,by show 0 * 10+m = m; omega⟩
  ·obtain ⟨ds,h1,h2,h3⟩:=ih (m / 10) (by omega)
   refine ⟨ds ++ [m % 10],fun d hd=>?_,⟨by simp,Or.inl ?_⟩,?_⟩
   ·rw [List.mem_append] at hd
    rcases hd with hd|hd
    ·exact h1 d hd
    ·simp at hd; omega
   ·obtain ⟨h4,h5⟩:=h2
    match ds,h4 with
    | [d],_=>
     have:0 * 10+d = m / 10:=h3
     show d≠0
     omega
    | d :: e :: r,_=>
     rcases h5 with h5|h5
     ·exact h5
     ·simp at h5
   ·rw [dval_append,h3]
    have:Pl.dval [m % 10] 0 = m % 10:=by show 0 * 10+m % 10 = _; omega
    rw [this]; simp; omega
theorem says_ex (m:Nat):∃ ds,Pl.Dig ds∧Says ⟨(chars ds).toArray⟩ m∧Pl.dval ds 0 = m∧Pl.Lead ds:=by
 obtain ⟨ds,h1,h2,h3⟩:=digits_ex m
 exact ⟨ds,h1,⟨ds,rfl,h1,h2,h3⟩,h3,h2⟩
theorem ends_fix (s:ByteArray) (hm:s.size≤65536):∃ f t:Nat,Ends s f t∧(f < t∨(f = 0∧t = 0))∧∀ W:World,Calls Tryz.prog 39 #[.string s] W fun e W'=>e = .returned (.tuple #[.int .i64 (f:Int),.int .i64 (t:Int)])∧Below W.heap.size W W':=by
 by_cases hz:∀ (j:Nat) (hj:j < s.size),(s[j]'hj).toNat = 48
 ·refine ⟨0,0,⟨Nat.le_refl _,Nat.zero_le _,fun j _ h=>absurd h (Nat.not_lt_zero _),fun j h _=>hz j h,fun h=>absurd h (Nat.lt_irrefl _),fun h=>absurd h (Nat.lt_irrefl _)⟩,Or.inr ⟨rfl,rfl⟩,fun W=>(ends_any s W hm).mono fun e W' ⟨⟨f,t,h1,h2,h3⟩,hb⟩=>?_⟩
  rcases h3 with h3|⟨rfl,rfl⟩
  ·have:=h2.hi
   exact absurd (hz f (by omega)) (h2.one h3 (by omega))
  ·exact ⟨h1,hb⟩
 ·obtain ⟨f,q,hfq,he⟩:=Ends.ex hz
  refine ⟨f,q+1,he,Or.inl (by omega),fun W=>(ends_any s W hm).mono fun e W' ⟨⟨f',t',h1,h2,h3⟩,hb⟩=>?_⟩
  obtain ⟨rfl,rfl⟩:=he.uniq h2 (by omega)
  exact ⟨h1,hb⟩
def cmpZ (x y:Int):Int:=if x < y then -1 else if y < x then 1 else 0
def dl (l:List UInt8) (k:Nat):Int:=match l[k]? with|some a=>(a.toNat:Int) - 48|none=>0
theorem dl_zero (a:UInt8) (l:List UInt8):dl (a :: l) 0 = (a.toNat:Int) - 48:=rfl
theorem dl_succ (a:UInt8) (l:List UInt8) (k:Nat):dl (a :: l) (k+1) = dl l k:=rfl
def Cd (l:List UInt8):Prop:=(∀ a,a∈l→48≤a.toNat)∧∀ a,l.getLast? = some a→a.toNat≠48
theorem Cd.tail {a:UInt8} {l:List UInt8} (h:Cd (a :: l)):Cd l:=
 ⟨fun b hb=>h.1 b (List.mem_cons_of_mem _ hb),fun b hb=>h.2 b (by
  cases l with
  | nil=>cases hb
  | cons c l=>rw [List.getLast?_cons_cons]; exact hb)⟩
theorem Cd.ex:∀ {a:UInt8} {l:List UInt8},Cd (a :: l)→∃ k,(∀ j,j < k→dl (a :: l) j = 0)∧0 < dl (a :: l) k:=by
 intro a l
 induction l generalizing a with
 | nil=>intro h; exact ⟨0,fun j hj=>absurd hj (Nat.not_lt_zero _),by have:=h.1 a (by simp); have:=h.2 a rfl; rw [dl_zero]; omega⟩
 | cons b l ih=>
  intro h
  have h48:=h.1 a (by simp)
  by_cases h0:a.toNat = 48
  ·obtain ⟨k,h1,h2⟩:=ih h.tail
   refine ⟨k+1,fun j hj=>?_,by rw [dl_succ]; exact h2⟩
   cases j with
   | zero=>rw [dl_zero]; omega
   | succ j=>rw [dl_succ]; exact h1 j (by omega)
  ·exact ⟨0,fun j hj=>absurd hj (Nat.not_lt_zero _),by rw [dl_zero]; omega⟩
def cmpL (x y:List UInt8):Int:=if Op.bytesLess x y then -1 else if x == y then 0 else 1
def Fl3 (x y:List UInt8) (c:Int):Prop:=(c = 0∧∀ k,dl x k = dl y k)∨∃ k,(∀ j,j < k→dl x j = dl y j)∧((dl x k < dl y k∧c = -1)∨(dl y k < dl x k∧c = 1))
theorem fl3:∀ (x y:List UInt8),Cd x→Cd y→Fl3 x y (cmpL x y):=by
 intro x
 induction x with
 | nil=>
  intro y _ hy
  cases y with
  | nil=>exact Or.inl ⟨rfl,fun _=>rfl⟩
  | cons b y=>
   obtain ⟨k,h1,h2⟩:=hy.ex
   exact Or.inr ⟨k,fun j hj=>(h1 j hj).symm,Or.inl ⟨h2,rfl⟩⟩
 | cons a x ih=>
  intro y hx hy
  cases y with
  | nil=>
   obtain ⟨k,h1,h2⟩:=hx.ex
   exact Or.inr ⟨k,fun j hj=>h1 j hj,Or.inr ⟨h2,rfl⟩⟩
  | cons b y=>
   by_cases hlt:a.toNat < b.toNat
   ·refine Or.inr ⟨0,fun j hj=>absurd hj (Nat.not_lt_zero _),Or.inl ⟨by rw [dl_zero,dl_zero]; omega,?_⟩⟩
    have:a < b:=UInt8.lt_iff_toNat_lt.2 hlt
    simp [cmpL,Op.bytesLess,this]
   ·by_cases hgt:b.toNat < a.toNat
    ·refine Or.inr ⟨0,fun j hj=>absurd hj (Nat.not_lt_zero _),Or.inr ⟨by rw [dl_zero,dl_zero]; omega,?_⟩⟩
     have h1:¬ a < b:=fun h=>hlt (UInt8.lt_iff_toNat_lt.1 h)
     have h2:¬ a = b:=fun h=>by rw [h] at hgt; omega
     simp [cmpL,Op.bytesLess,h1,h2]
    ·obtain rfl:a = b:=UInt8.toNat_inj.1 (by omega)
     have h1:¬ a < a:=fun h=>hlt (UInt8.lt_iff_toNat_lt.1 h)
     have he:cmpL (a :: x) (a :: y) = cmpL x y:=by simp [cmpL,Op.bytesLess,h1]
     rw [he]
     rcases ih y hx.tail hy.tail with ⟨h2,h3⟩|⟨k,h2,h3⟩
     ·refine Or.inl ⟨h2,fun k=>?_⟩
      cases k with
      | zero=>rfl
      | succ k=>exact h3 k
     ·refine Or.inr ⟨k+1,fun j hj=>?_,h3⟩
      cases j with
      | zero=>rfl
      | succ j=>exact h2 j (by omega)
theorem cd_of {s:ByteArray} (hd:AllD s s.size) (hl:∀ k,(h:k+1 = s.size)→(s[k]'(by omega)).toNat≠48):Cd s.data.toList:=by
 constructor
 ·intro a ha
  obtain ⟨k,hk,rfl⟩:=List.getElem_of_mem ha
  exact (hd k (by simpa using hk) (by simpa using hk)).1
 ·intro a ha
  rw [List.getLast?_eq_getElem?] at ha
  have hn:0 < s.size:=by
   by_cases h0:0 < s.size
   ·exact h0
   ·have h1:s.data.toList.length = s.size:=Array.length_toList
    rw [List.getElem?_eq_none (by omega)] at ha
    cases ha
  have hlen:s.data.toList.length = s.size:=Array.length_toList
  rw [List.getElem?_eq_getElem (by omega)] at ha
  cases ha
  have:=hl (s.size - 1) (by omega)
  simp only [Array.length_toList,Array.getElem_toList]
  exact this
end Go.Proofs.YtplihgoapiiigaaGreatDoor
