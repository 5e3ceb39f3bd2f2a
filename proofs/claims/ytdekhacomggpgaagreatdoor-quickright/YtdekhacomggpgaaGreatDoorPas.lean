/- Of what QuickRightRow stands on: RefParse RefLess RefSums RefText RefUpDown ExCheck RdCut. -/
import Derived.Test.YtdekhacomggpgaaGreatDoorPaq
import Derived.Test.YtdekhacomggpgaaGreatDoorPar
import Derived.Test.YtdekhacomggpgaaGreatDoorPan
import Derived.Test.YtdekhacomggpgaaGreatDoorPag
import Derived.Test.YtdekhacomggpgaaGreatDoorPaf
import Derived.Deep.LoopGhost
import Derived.Test.YtdekhacomggpgaaGreatDoorPaj
import Derived.BigQuiet
import Derived.Test.YtdekhacomggpgaaGreatDoorPab
import Derived.Test.YtdekhacomggpgaaGreatDoorPai
namespace Go.Proofs.YtdekhacomggpgaaGreatDoor
open Go.RowKit
set_option maxHeartbeats 400000
theorem dval_take_lt {ds:List Nat} (h:Pl.Dig ds) (k:Nat) (hk:k≤ds.length):Pl.dval (ds.take k) 0 < 10 ^ k:=by
 have:=Pl.dval_lt (dig_take h k)
 rwa [List.length_take,Nat.min_eq_left hk] at this
structure TwoR (w W:World) (a a':Option Addr) (n n' cap cap':Nat):Prop where
 ba:Box W w.heap.size (.slice a n cap)
 bb:Box W (w.heap.size+1) (.slice a' n' cap')
 br:Box W (w.heap.size+2) (.slice none 0 0)
 bel:Below w.heap.size w W
theorem TwoR.kept {w W W':World} {a a':Option Addr} {n n' cap cap':Nat} (h:TwoR w W a a' n n' cap cap') (hb:Below W.heap.size W W'):TwoR w W' a a' n n' cap cap':=⟨h.ba.kept hb,h.bb.kept hb,h.br.kept hb,gr_trans h.bel hb⟩
theorem TwoR.made (w:World) (a a':Option Addr) (n n' cap cap':Nat):TwoR w (((w.alloc (.cells #[.slice a n cap] 29)).alloc (.cells #[.slice a' n' cap'] 29)).alloc (.cells #[.slice none 0 0] 29)) a a' n n' cap cap':=by
 have h1:=Box.made (w.alloc (.cells #[.slice a n cap] 29)) (.slice a' n' cap')
 have h2:=Box.made ((w.alloc (.cells #[.slice a n cap] 29)).alloc (.cells #[.slice a' n' cap'] 29)) (.slice none 0 0)
 simp only [World.size_alloc] at h1 h2
 exact ⟨((Box.made w _).alloc _).alloc _,h1.alloc _,h2,gr_trans (gr_trans (gr_alloc _ _) (gr_alloc _ _)) (gr_alloc _ _)⟩
def bl (ds:List Nat):List Value:=ds.map (fun z:Nat=>Value.int .u8 (z:Int))
def BOwn (w:World) (base:Nat) (v:Value) (ds:List Nat):Prop:=w.ownsRow base 5 1 v ds.length (bl ds)
theorem BOwn.nil (w:World) (base:Nat):BOwn w base (.slice none 0 0) []:=World.ownsRow_nil _ _ _ _
theorem BOwn.kept {w w':World} {base:Nat} {v:Value} {ds:List Nat} (h:BOwn w base v ds) (hb:Below w.heap.size w w'):BOwn w' base v ds:=own_below h hb
theorem BOwn.slice {w:World} {base:Nat} {v:Value} {ds:List Nat} (h:BOwn w base v ds):∃ a n c,v = .slice a n c∧ds.length = n:=by
 obtain ⟨_,⟨h1,h2⟩|⟨g,c,cur,hv,_⟩⟩:=h
 ·exact ⟨none,0,0,h1,h2⟩
 ·exact ⟨_,_,_,hv,rfl⟩
theorem BOwn.open {w:World} {base:Nat} {a:Option Addr} {n c:Nat} {ds:List Nat} (h:BOwn w base (.slice a n c) ds) (hp:0 < ds.length) :
  ∃ g,a = some ⟨g,0,none⟩∧base≤g∧g < w.heap.size∧∀ j,j < ds.length→w.cell? ⟨g,j,none⟩ = some (.int .u8 ((ds[j]?.getD 0:Nat):Int)):=by
 have hlt:=h.lt
 obtain ⟨_,⟨h1,h2⟩|⟨g,c,cur,hv,hg,hh,h1,h2,h3,h4⟩⟩:=h
 ·omega
 ·injection hv with e1 e2 e3
  refine ⟨g,e1,hg,(hlt g (by rw [e1]; rfl)).2,fun j hj=>?_⟩
  rw [cell_of_row w g j cur _ _ hh]
  have e:cur.toList[j]? = (bl ds)[j]?:=by rw [← h4,List.getElem?_take,if_pos (by omega)]
  rw [← Array.getElem?_toList,e]
  simp [bl,hj]
theorem rtext_group {V Q G k p M DE D:Nat} (hV:V = Q * 1000000000+G) (h:V * 10 ^ p+D = M) (hk:k = 9∨Q = 0) (hE:DE = G * 10 ^ p+D):Q * 10 ^ (p+k)+DE = M:=by
 rw [hE,← h,hV]
 rcases hk with rfl|rfl
 ·rw [Nat.pow_add,Nat.add_mul,Nat.mul_assoc,Nat.mul_comm (10 ^ p) (10 ^ 9),Nat.add_assoc]
 ·simp
def TInv (w:World) (M:Nat) (g:Nat) (s5 s6:Value) (wr:World):Prop:=
 ∃ (a:Option Addr) (l c:Nat) (cur D:List Nat),s6 = .slice a l c∧cur.length = l∧l≤16384∧Lim wr a cur∧Pl.Wf cur∧Pl.Norm cur∧Pl.val cur = g∧BOwn wr w.heap.size s5 (D.reverse.map (48+·))∧Pl.Dig D ∧
  g * 10 ^ D.length+Pl.dval D 0 = M∧(g = 0→D[0]?.getD 0≠0)∧Below w.heap.size w wr
def RGInv (w:World) (q:Value) (qs D:List Nat) (G k G':Nat) (s5:Value) (wr:World):Prop:=
 ∃ E:List Nat,E.length = k∧Pl.Dig E∧G' * 10 ^ k+Pl.dval E 0 = G∧BOwn wr w.heap.size s5 ((E ++ D).reverse.map (48+·))∧Own wr w.heap.size q qs∧(qs.length = 0→G' = 0→E[0]?.getD 0≠0)∧Below w.heap.size w wr
theorem RGInv.next {w wr W':World} {q s5 v':Value} {qs D:List Nat} {G k G':Nat} {E:List Nat} (h1:E.length = k) (h2:Pl.Dig E) (h3:G' * 10 ^ k+Pl.dval E 0 = G) (h5:Own wr w.heap.size q qs) (h7:Below w.heap.size w wr) (hB:BOwn wr w.heap.size s5 ((E ++ D).reverse.map (48+·)))
  (hO:BOwn W' w.heap.size v' ((E ++ D).reverse.map (48+·) ++ [48+G' % 10])) (hap:Ap wr W' s5 v') (hg:0 < qs.length∨0 < G'):RGInv w q qs D G (k+1) (G' / 10) v' W':=by
 refine ⟨G' % 10 :: E,by simp [h1],?_,?_,?_,?_,?_,?_⟩
 ·intro d hd
  rcases List.mem_cons.1 hd with rfl|hd
  ·exact Nat.mod_lt _ (by decide)
  ·exact h2 d hd
 ·rw [digit_step E h1 rfl]; exact h3
 ·have e:((G' % 10 :: E) ++ D).reverse.map (48+·) = (E ++ D).reverse.map (48+·) ++ [48+G' % 10]:=by simp
  rw [e]; exact hO
 ·refine h5.keep (fun k hk hkv=>hap.block k hk (fun e=>?_))
  obtain ⟨cu,hcu⟩:=h5.type k hkv
  exact row_type hB e.symm hcu (by decide)
 ·intro hq0 hz
  simp
  omega
 ·exact h7.trans ⟨hap.os,hap.tape,hap.output,hap.size,fun q hq=>hap.block q (by have:=h7.size; omega) (fun e=>by have:=World.ownsRow.lt hB q e.symm; omega)⟩
theorem RGInv.zero {w wr:World} {q s5:Value} {qs D:List Nat} {G k G' kq:Nat} (h:RGInv w q qs D G k G' s5 wr) (hG:G < 1000000000) (hk:k = 9∨(kq = 0∧G' = 0)):G' = 0:=by
 rcases hk with hk|hk
 ·obtain ⟨E,_,_,g3,_⟩:=h
  rw [hk,show (10:Nat) ^ 9 = 1000000000 by decide] at g3
  omega
 ·exact hk.2
theorem RGInv.done {w wr:World} {a:Option Addr} {kq l:Nat} {qs D:List Nat} {V G k M:Nat} {s5:Value} (h:RGInv w (.slice a kq l) qs D G k 0 s5 wr) (hk:k = 9∨qs.length = 0) (hG:G = V % 1000000000) (hqv:Pl.val qs = V / 1000000000) (hqw:Pl.Wf qs) (hqN:Pl.Norm qs)
  (hD:Pl.Dig D) (hval:V * 10 ^ D.length+Pl.dval D 0 = M) (hq:qs.length = kq) (h16:kq≤16384):TInv w M (Pl.val qs) s5 (.slice a kq l) wr:=by
 obtain ⟨E,g1,g2,g3,g4,g5,g6,g7⟩:=h
 obtain ⟨a',c',he,_,_,hlim⟩:=g5.lim
 injection he with e1 e2 e3
 subst e1
 rw [Nat.zero_mul,Nat.zero_add] at g3
 refine ⟨a,kq,l,qs,E ++ D,rfl,hq,h16,hlim,hqw,hqN,rfl,g4,?_,?_,?_,g7⟩
 ·intro d hd
  rcases List.mem_append.1 hd with hd|hd
  ·exact g2 d hd
  ·exact hD d hd
 ·rw [List.length_append,Nat.add_comm E.length,g1]
  refine rtext_group (V:=V) (G:=G) (D:=Pl.dval D 0) (by omega) hval ?_ (by rw [dval_append,g3])
  rcases hk with hk|hk
  ·exact Or.inl hk
  ·right
   rw [List.length_eq_zero_iff.1 hk]; rfl
 ·intro hz
  have hq0:qs.length = 0:=by rw [Pl.norm_zero hqN hz]; rfl
  have h6:=g6 hq0 rfl
  have hE:0 < E.length:=by
   cases E with
   | nil=>simp at h6
   | cons e E=>simp
  rw [List.getElem?_append_left hE]
  exact h6
def Far (x:Int):Prop:=x < -1073741824∨1073741824 < x
instance (x:Int):Decidable (Far x):=by unfold Far; infer_instance
theorem isNought_no (a:Option Addr) (n cap:Nat) (hn:0 < n) (w:World)  :
  Calls Tryz.prog 103 #[.agg #[.slice a n cap]] w fun e w'=>e = .returned (.bool false)∧Below w.heap.size w w':=by
 go_enter Tryz.func103,Tryz.ntmps103
 go_wp2
 go_ret
 exact ⟨ret_bool (by simp <;> omega),(Fs.one w _ _).fr⟩
def ahf (m dr:Nat):Int:=if m / 2 ^ (dr - 1) % 2 = 1 then (if dr = 1 then 0 else 1) else -1
theorem ahf_three (m dr:Nat):ahf m dr = -1∨ahf m dr = 0∨ahf m dr = 1:=by
 unfold ahf; split
 ·split <;> simp
 ·simp
def cutN (mode:Nat) (s:Bool) (m dr:Nat):Nat:=m / 2 ^ dr+(if fth mode s (decide (m / 2 ^ dr % 2 = 1)) (ahf m dr) then 1 else 0)
theorem bit_yes (a:Option Addr) (n cap m k:Nat) (w:World) (h:Num w a n m) (hk:k < 9223372036854775808) (hb:m / 2 ^ k % 2 = 1) :
  Calls Tryz.prog 136 #[.agg #[.slice a n cap],.int .i64 (k:Int)] w fun e w'=>e = .returned (.tuple #[.bool true,.int .i64 0])∧Below w.heap.size w w':=by
 have:=bit_any a n cap m k w h hk
 rw [decide_eq_true hb] at this
 exact this
theorem bit_no (a:Option Addr) (n cap m k:Nat) (w:World) (h:Num w a n m) (hk:k < 9223372036854775808) (hb:¬ m / 2 ^ k % 2 = 1) :
  Calls Tryz.prog 136 #[.agg #[.slice a n cap],.int .i64 (k:Int)] w fun e w'=>e = .returned (.tuple #[.bool false,.int .i64 0])∧Below w.heap.size w w':=by
 have:=bit_any a n cap m k w h hk
 rw [decide_eq_false hb] at this
 exact this
theorem ahalf_no (a:Option Addr) (n cap m j:Nat) (w:World) (h:Num w a n m) (hjj:j < 4611686018427387904) (hb:¬ m / 2 ^ j % 2 = 1) :
  Calls Tryz.prog 114 #[.agg #[.slice a n cap],.int .i64 ((j:Int)+1)] w fun e w'=>e = .returned (.int .i64 (-1))∧Below w.heap.size w w':=by
 have H:=hide h
 have HB:=hide hb
 have e1:(j:Int)+1 - 1 = (j:Int):=by omega
 clear h hb
 go_enter Tryz.func114,Tryz.ntmps114
 go_wp2_with fail
 refine (bit_no a n cap m j _ ((unhide H).kept (gr_alloc _ _)) (by omega) (unhide HB)).mono ?_
 rintro e w1 ⟨rfl,hb1⟩
 have hS:=(Fs.one w _ _).kept hb1
 obtain ⟨⟨ya,-⟩,-⟩:=hS.cells
 go_wp2
 go_ret
 exact ⟨rfl,hS.fr⟩
theorem ahalf_yes (a:Option Addr) (n cap m j:Nat) (w:World) (h:Num w a n m) (hjj:j < 4611686018427387904) (hb:m / 2 ^ j % 2 = 1) (hj:0 < j) :
  Calls Tryz.prog 114 #[.agg #[.slice a n cap],.int .i64 ((j:Int)+1)] w fun e w'=>e = .returned (.int .i64 1)∧Below w.heap.size w w':=by
 have H:=hide h
 have HB:=hide hb
 have e1:(j:Int)+1 - 1 = (j:Int):=by omega
 clear h hb
 go_enter Tryz.func114,Tryz.ntmps114
 go_wp2_with fail
 refine (bit_yes a n cap m j _ ((unhide H).kept (gr_alloc _ _)) (by omega) (unhide HB)).mono ?_
 rintro e w1 ⟨rfl,hb1⟩
 have hS:=(Fs.one w _ _).kept hb1
 obtain ⟨⟨ya,-⟩,-⟩:=hS.cells
 have e2:((j:Int)+1 == 1) = false:=by simp; omega
 go_wp2
 go_ret
 exact ⟨rfl,hS.fr⟩
theorem ahalf_one (a:Option Addr) (n cap m:Nat) (w:World) (h:Num w a n m) (hb:m / 2 ^ 0 % 2 = 1) :
  Calls Tryz.prog 114 #[.agg #[.slice a n cap],.int .i64 1] w fun e w'=>e = .returned (.int .i64 0)∧Below w.heap.size w w':=by
 have H:=hide h
 have HB:=hide hb
 clear h hb
 go_enter Tryz.func114,Tryz.ntmps114
 go_wp2_with fail
 refine (bit_yes a n cap m 0 _ ((unhide H).kept (gr_alloc _ _)) (by omega) (unhide HB)).mono ?_
 rintro e w1 ⟨rfl,hb1⟩
 have hS:=(Fs.one w _ _).kept hb1
 obtain ⟨⟨ya,-⟩,-⟩:=hS.cells
 go_wp2
 go_ret
 exact ⟨rfl,hS.fr⟩
theorem ahalf_any (a:Option Addr) (n cap m dr:Nat) (w:World) (h:Num w a n m) (h1:1≤dr) (h2:dr < 4611686018427387904) :
  Calls Tryz.prog 114 #[.agg #[.slice a n cap],.int .i64 (dr:Int)] w fun e w'=>e = .returned (.int .i64 (ahf m dr))∧Below w.heap.size w w':=by
 obtain ⟨j,rfl⟩:∃ j,dr = j+1:=⟨dr - 1,by omega⟩
 have e1:((j+1:Nat):Int) = (j:Int)+1:=by omega
 rw [e1]
 unfold ahf
 rw [show j+1 - 1 = j from by omega]
 by_cases hb:m / 2 ^ j % 2 = 1
 ·rw [if_pos hb]
  by_cases hj:j = 0
  ·subst hj
   rw [if_pos rfl]
   exact ahalf_one a n cap m w h hb
  ·rw [if_neg (by omega)]
   exact ahalf_yes a n cap m j w h (by omega) hb (by omega)
 ·rw [if_neg hb]
  exact ahalf_no a n cap m j w h (by omega) hb
theorem num_le2 {w:World} {a:Option Addr} {n m:Nat} (h:Num w a n m) (hm:m < 18446744073709551616):n≤2:=by
 obtain ⟨xs,hn,hl,hw,hN,hv,hb⟩:=h
 refine Nat.le_of_not_lt fun h3=>?_
 have h4:=Pl.norm_lower hN (by omega:0 < xs.length)
 rw [hv,hn] at h4
 have h5:4294967296 ^ 2≤4294967296 ^ (n - 1):=Nat.pow_le_pow_right (by decide) (by omega)
 omega
theorem cut_whole (s:Bool) (a:Option Addr) (n cap m j mode:Nat) (x:Int) (w:World) (h:Num w a n m) (hj:j < 64) (hm:m < 18446744073709551616) (hp:m * 2 ^ j < 18446744073709551616) :
  Calls Tryz.prog 79 #[.agg #[.bool s,.slice a n cap,.int .i64 x],.int .i64 (x - (j:Int)),.int .u8 (mode:Int)] w fun e w'=>e = .returned (.tuple #[.int .u64 ((m * 2 ^ j:Nat):Int),.bool true])∧Below w.heap.size w w':=by
 have H:=hide h
 have hn2:=num_le2 h hm
 have hj1:x - (j:Int) - x = -(j:Int):=by omega
 have e2:(-(j:Int)≤0):=by omega
 have e3:-(-(j:Int)) = (j:Int):=by omega
 have e4:IntKind.u64.wrap ((m:Int) * 2 ^ j) = ((m * 2 ^ j:Nat):Int):=by
  rw [show ((m:Int) * 2 ^ j) = ((m * 2 ^ j:Nat):Int) from by simp,IntKind.wrap_u64]; omega
 clear h
 go_enter Tryz.func79,Tryz.ntmps79
 go_wp2_with fail
 refine (low_small a n cap m _ ((unhide H).kept (gr_alloc _ _)) hn2).mono ?_
 rintro e w1 ⟨rfl,hb1⟩
 have hS:=(Fs.one w _ _).kept hb1
 obtain ⟨⟨ya,yb,yc,-⟩,-⟩:=hS.cells
 go_wp2
 exact bodyPost_ret (v:=.tuple #[.int .u64 ((m * 2 ^ j:Nat):Int),.bool true]) (by simp [results,Tryz.results79,go_sem]) rfl ⟨rfl,hS.fr⟩
end Go.Proofs.YtdekhacomggpgaaGreatDoor
