/- Of what PowerDigitsRow stands on: RefUpDown RefText. -/
import Derived.Test.YteblliofeaahmaaDoorPao
import Derived.Test.YteblliofeaahmaaDoorPap
import Derived.Test.YteblliofeaahmaaDoorPam
import Derived.Test.YteblliofeaahmaaDoorPaf
import Derived.BigQuiet
import Derived.Deep.LoopGhost
namespace Go.Proofs.YteblliofeaahmaaDoor
open Go.RowKit
set_option maxHeartbeats 4000000
set_option maxRecDepth 20000
theorem rcheck_num (a:Option Addr) (n cap m:Nat) (w:World) (h:Num w a n m) :
  Calls Tryd.prog 53 #[.agg #[.slice a n cap]] w fun e w'=>e = .returned (.int .i64 0)∧Below w.heap.size w w':=by
 obtain ⟨xs,hn,hl,hw,hN,hv,hb⟩:=h
 have:=rcheck_any a cap xs w (by omega) hl
 rw [hn,chk_ok (by omega) hN] at this
 exact this
theorem rup_zero (a:Option Addr) (cap k:Nat) (w:World) :
  Calls Tryd.prog 29 #[.agg #[.slice a 0 cap],.int .i64 (k:Int)] w fun e w'=>e = .returned (.tuple #[.agg #[.slice none 0 0],.int .i64 0])∧Below w.heap.size w w':=by
 have HK:=hide (fun (o1 o2:Obj)=>rcheck_num a 0 cap 0 ((w.alloc o1).alloc o2) ⟨[],rfl,Or.inl rfl,Pl.wf_nil,Pl.norm_nil,rfl,by omega⟩)
 go_enter Tryd.func29,Tryd.ntmps29
 go_wp2_with fail
 refine (unhide HK _ _).mono ?_
 rintro e w1 ⟨rfl,hb1⟩
 have hbx:=((Box.made w (.slice a 0 cap)).alloc (.cells #[.slice none 0 0] 65)).kept hb1
 have hby:=(Box.made (w.alloc (.cells #[.slice a 0 cap] 65)) (.slice none 0 0)).kept hb1
 simp only [World.size_alloc] at hby
 have hcx:=hbx.cell
 have hcy:=hby.cell
 have hfy:=hby.frozen
 have HB:=hide (gr_trans (gr_trans (gr_alloc w (.cells #[.slice a 0 cap] 65)) (gr_alloc _ (.cells #[.slice none 0 0] 65))) hb1)
 clear hb1 HK
 go_wp2
 exact bodyPost_ret (v:=.tuple #[.agg #[.slice none 0 0],.int .i64 0]) (by simp [results,Tryd.results29,go_sem,hcy]) rfl ⟨rfl,(unhide HB).setCell (by simp) _⟩
theorem rup_num (b off n cap m k j:Nat) (w:World) (h:Num w (some ⟨b,off,none⟩) n m) (hm:0 < m) (hj:Bl m j) (hlt:b < w.heap.size) (hk2:k < 9223372036854775808) :
  Calls Tryd.prog 29 #[.agg #[.slice (some ⟨b,off,none⟩) n cap],.int .i64 (k:Int)] w fun e w'=>Ans w' w.heap.size e (m * 2 ^ k)∧Below w.heap.size w w':=by
 have H:=hide h
 have hz:=h.zero
 have hn0:((n:Int) == 0) = false:=by simp; omega
 have HK:=hide (fun (o1 o2:Obj)=>rcheck_num (some ⟨b,off,none⟩) n cap m ((w.alloc o1).alloc o2) ((h.alloc o1).alloc o2))
 have hnb:=h.len
 have HJ:=hide hj
 clear hj h
 go_enter Tryd.func29,Tryd.ntmps29
 go_wp2_with fail
 refine (unhide HK _ _).mono ?_
 rintro e w1 ⟨rfl,hb1⟩
 have hbx:=((Box.made w (.slice (some ⟨b,off,none⟩) n cap)).alloc (.cells #[.slice none 0 0] 65)).kept hb1
 have hby:=(Box.made (w.alloc (.cells #[.slice (some ⟨b,off,none⟩) n cap] 65)) (.slice none 0 0)).kept hb1
 simp only [World.size_alloc] at hby
 have hcx:=hbx.cell
 have hcy:=hby.cell
 have hfy:=hby.frozen
 have HB:=hide (gr_trans (gr_trans (gr_alloc w (.cells #[.slice (some ⟨b,off,none⟩) n cap] 65)) (gr_alloc _ (.cells #[.slice none 0 0] 65))) hb1)
 clear hb1 HK
 go_wp2_with fail
 refine (rsize_any (some ⟨b,off,none⟩) n cap m w1 ((unhide H).kept (unhide HB))).mono ?_
 rintro e w2 ⟨⟨j2,rfl,hB2,hle⟩,rfl⟩
 obtain rfl:j2 = j:=hB2.uniq (unhide HJ)
 clear hB2
 have hj0:j2≠0:=fun e=>by subst e; have:=(unhide HJ).1; simp at this; omega
 have hlow:=(unhide HJ).2.resolve_left hj0
 by_cases hkj:k+j2≤524288
 ·have hgt:¬ (524288:Int) - (j2:Int) < (k:Int):=by omega
  have hm2:m * 2 ^ k < 2 ^ (k+j2):=by
   rw [Nat.add_comm,Nat.pow_add]
   exact Nat.mul_lt_mul_of_pos_right (unhide HJ).1 (Nat.pow_pos (by decide))
  have hm3:m * 2 ^ k < 4294967296 ^ Pl.top:=by
   rw [pow32]
   exact Nat.lt_of_lt_of_le hm2 (Nat.pow_le_pow_right (by decide) (by rw [Pl.top_eq]; omega))
  have HU:Hid (Calls Tryd.prog 56 #[.slice (some ⟨b,off,none⟩) n cap,.int .i64 (k:Int)] w1 fun e w'=>(∃ a' l c,e = .returned (.slice a' l c)∧Mine w' w1.heap.size a' l c (m * 2 ^ k))∧Below w1.heap.size w1 w'):=hide (by
   obtain ⟨xs,hn,hl,hw,hN,hv,hb⟩:=(unhide H).kept (unhide HB)
   have hc:∀ j,j < n→w1.cell? ⟨b,off+j,none⟩ = some (.int .u32 ((xs[j]?.getD 0:Nat):Int)):=by
    rcases hl with h0|⟨b2,off2,e,hc⟩
    ·rw [h0] at hn; simp at hn; omega
    ·injection e with e
     injection e with e1 e2
     subst e1 e2
     exact fun j hj=>hc j (by omega)
   refine (rup_list b off cap n (k / 32) (k % 32) k xs w1 (hide hn) (by omega) (by omega) hw (by have:=(unhide HB).size; omega) (hide (by omega)) (by omega) (by omega) (hide hc)).mono ?_
   rintro e w' ⟨⟨a',l,c,ys,rfl,h1,h2,h3,h4,h5⟩,h6⟩
   rw [hv] at h5
   refine ⟨⟨a',l,c,rfl,ys,h1,h2,h3,h4,h5,?_⟩,h6⟩
   have:=(Pl.val_le_len h3 h4 Pl.top).2 (by rw [h5]; exact hm3)
   rw [Pl.top_eq] at this
   omega)
  clear hm2 hm3 hkj hlow hj0
  go_wp2_with fail
  refine (unhide HU).mono ?_
  rintro e w3 ⟨⟨a3,n3,c3,rfl,hm3⟩,hb3⟩
  have hX3:=(hby.kept hb3).alloc (.cells #[.slice a3 n3 c3] 65)
  have HM:=hide ((hm3.mono (unhide HB).size).alloc (.cells #[.slice a3 n3 c3] 65))
  have HB3:=hide (gr_trans (gr_trans (unhide HB) hb3) (gr_alloc w3 (.cells #[.slice a3 n3 c3] 65)))
  clear hm3 hb3 hcy hfy
  go_wp2_with fail
  refine (rnat_any _ _ n3 c3 _ rfl).mono ?_
  rintro e w4 ⟨rfl,rfl⟩
  have hcx:=hX3.cell
  have hfx:=hX3.frozen
  go_wp2
  exact bodyPost_ret (v:=.tuple #[.agg #[.slice a3 n3 c3],.int .i64 0]) (by simp [results,Tryd.results29,go_sem,hcx]) rfl ⟨Or.inl ⟨_,_,_,rfl,(unhide HM).setBox hX3 _⟩,(unhide HB3).setCell (Nat.le_add_right _ 1) _⟩
 ·have hgt:(524288:Int) - (j2:Int) < (k:Int):=by omega
  have HO:Hid (Over (m * 2 ^ k)):=hide ⟨by
   rw [pow32]
   have h3:2 ^ (32 * Pl.top)≤2 ^ (j2 - 1+k):=Nat.pow_le_pow_right (by decide) (by rw [Pl.top_eq]; omega)
   rw [Nat.pow_add] at h3
   exact Nat.le_trans h3 (Nat.mul_le_mul_right _ hlow)⟩
  clear hlow hj0 hkj
  go_wp2
  exact bodyPost_ret (v:=.tuple #[.agg #[.slice none 0 0],.int .i64 4]) (by simp [results,Tryd.results29,go_sem,hcy]) rfl ⟨Or.inr ⟨rfl,unhide HO⟩,(unhide HB).setCell (by simp) _⟩
theorem rup_any (a:Option Addr) (n cap m k:Nat) (w:World) (h:Num w a n m) (hk:k < 9223372036854775808) :
  Calls Tryd.prog 29 #[.agg #[.slice a n cap],.int .i64 (k:Int)] w fun e w'=>Ans w' w.heap.size e (m * 2 ^ k)∧Below w.heap.size w w':=by
 by_cases hm:m = 0
 ·subst hm
  obtain rfl:=h.zero.2 rfl
  refine (rup_zero a cap k w).mono ?_
  rintro e w' ⟨rfl,hb⟩
  rw [Nat.zero_mul]
  exact ⟨Or.inl ⟨none,0,0,rfl,[],rfl,Or.inl ⟨rfl,rfl⟩,Pl.wf_nil,Pl.norm_nil,rfl,by omega⟩,hb⟩
 ·obtain ⟨j,hj⟩:=bl_ex m
  have h':=h
  obtain ⟨xs,hn,hl,hw,hN,hv,hb⟩:=h
  rcases hl.parts with h0|⟨_,b,off,rfl,hlt,_⟩
  ·rw [h0] at hv; exact absurd hv.symm hm
  ·exact rup_num b off n cap m k j w h' (by omega) hj hlt hk
def bl (ds:List Nat):List Value:=ds.map (fun z:Nat=>Value.int .u8 (z:Int))
def BOwn (w:World) (base:Nat) (v:Value) (ds:List Nat):Prop:=w.ownsRow base 5 1 v ds.length (bl ds)
theorem BOwn.nil (w:World) (base:Nat):BOwn w base (.slice none 0 0) []:=World.ownsRow_nil _ _ _ _
theorem BOwn.kept {w w':World} {base:Nat} {v:Value} {ds:List Nat} (h:BOwn w base v ds) (hb:Below w.heap.size w w'):BOwn w' base v ds:=own_below h hb
theorem BOwn.slice {w:World} {base:Nat} {v:Value} {ds:List Nat} (h:BOwn w base v ds):∃ a n c,v = .slice a n c∧ds.length = n:=by
 obtain ⟨_,⟨h1,h2⟩|⟨g,c,cur,hv,_⟩⟩:=h
 ·exact ⟨none,0,0,h1,h2⟩
 ·exact ⟨_,_,_,hv,rfl⟩
theorem BOwn.open {w:World} {base:Nat} {a:Option Addr} {n c:Nat} {ds:List Nat} (h:BOwn w base (.slice a n c) ds) (hp:0 < ds.length) :
  ∃ g,a = some ⟨g,0,none⟩∧base≤g∧g < w.heap.size∧∀ j,j < ds.length→w.cell? ⟨g,j,none⟩ = some (.int .u8 ((ds[j]?.getD 0:Nat):Int)):=by
 have hlt:=h.lt
 obtain ⟨_,⟨h1,h2⟩|⟨g,c,cur,hv,hg,hh,h1,h2,h3,h4⟩⟩:=h
 ·omega
 ·injection hv with e1 e2 e3
  refine ⟨g,e1,hg,(hlt g (by rw [e1]; rfl)).2,fun j hj=>?_⟩
  rw [cell_of_row w g j cur _ _ hh]
  have e:cur.toList[j]? = (bl ds)[j]?:=by rw [← h4,List.getElem?_take,if_pos (by omega)]
  rw [← Array.getElem?_toList,e]
  simp [bl,hj]
theorem append_byte (w:World) (base z:Nat) (v:Value) (ds:List Nat) (h:BOwn w base v ds) (hb:base≤w.heap.size) (hn:ds.length≤1000000) :
  ∃ v' w',(Builtin.append_ #[112,112] 112 #[v,.slice (some ⟨w.heap.size,0,none⟩) 1 1]).run Tryd.prog (w.alloc (.cells #[.int .u8 (z:Int)] 5)) = .ok v' w' ∧
   BOwn w' base v' (ds ++ [z])∧Ap w w' v v':=by
 obtain ⟨i0,hi,hz0,hz1,hz2⟩:=info_parts Tryd.info_byte
 have hnew:=cell_one_new w (.int .u8 (z:Int)) 5
 have hone:∀ u∈[Value.int .u8 (z:Int)],u.oneCell' = true:=fun u hu=>by simp at hu; subst hu; rfl
 have hold:∀ k,k < w.heap.size→(w.alloc (.cells #[.int .u8 (z:Int)] 5)).heap[k]? = w.heap[k]?:=fun k hk=>(gr_alloc w _).block k hk
 have hsz:(w.alloc (.cells #[.int .u8 (z:Int)] 5)).heap.size = w.heap.size+1:=by simp
 obtain ⟨v',w',hr,hrow,hgr,_,how⟩:=run_append_own_at (P:=Tryd.prog) (w:=w.alloc (.cells #[.int .u8 (z:Int)] 5)) base 112 112 5 i0 (.int .u8 0) 1 1 Tryd.under_bytes hi hz0 hz1 hz2 rfl (by decide) v ds.length (bl ds) (h.kept (gr_alloc _ _)) ⟨w.heap.size,0,none⟩ 1 1 [.int .u8 (z:Int)] rfl hnew hone (by unfold maxLen; omega) (by omega) (by omega)
 refine ⟨v',w',hr,?_,hgr.os,hgr.tape,hgr.output,by have:=hgr.size; omega,fun k hk hne=>(hgr.block k (by omega) hne).trans (hold k hk),?_⟩
 ·unfold BOwn
  rw [List.length_append]
  simpa [bl] using hrow
 ·rcases how with h|h
  ·exact Or.inl h
  ·exact Or.inr ⟨_,h,by omega⟩
theorem rtext_group {V Q G k p M DE D:Nat} (hV:V = Q * 1000000000+G) (h:V * 10 ^ p+D = M) (hk:k = 9∨Q = 0) (hE:DE = G * 10 ^ p+D):Q * 10 ^ (p+k)+DE = M:=by
 rw [hE,← h,hV]
 rcases hk with rfl|rfl
 ·rw [Nat.pow_add,Nat.add_mul,Nat.mul_assoc,Nat.mul_comm (10 ^ p) (10 ^ 9),Nat.add_assoc]
 ·simp
theorem take_set (X:List Nat) (k p:Nat) (hk:k < p) (hl:X.length = p):(X.take k ++ List.replicate (p - k) 0).set k (X[k]?.getD 0) = X.take (k+1) ++ List.replicate (p - (k+1)) 0:=by
 have e:p - k = p - (k+1)+1:=by omega
 rw [e,List.replicate_succ,List.set_append_right _ _ (by rw [List.length_take]; omega),List.length_take,Nat.min_eq_left (by omega),Nat.sub_self,Pl.take_snoc X k (by omega)]
 simp
theorem rev_at (D:List Nat) (k p:Nat) (hl:D.length = p) (hk:k < p):((D.reverse.map (48+·))[p - 1 - k]?.getD 0) = (D.map (48+·))[k]?.getD 0:=by
 rw [List.getElem?_map,List.getElem?_map,List.getElem?_reverse (by omega),hl,show p - 1 - (p - 1 - k) = k by omega]
def TInv (w:World) (M:Nat) (g:Nat) (s5 s6:Value) (wr:World):Prop:=
 ∃ (a:Option Addr) (l c:Nat) (cur D:List Nat),s6 = .slice a l c∧cur.length = l∧l≤16384∧Lim wr a cur∧Pl.Wf cur∧Pl.Norm cur∧Pl.val cur = g∧BOwn wr w.heap.size s5 (D.reverse.map (48+·))∧Pl.Dig D ∧
  g * 10 ^ D.length+Pl.dval D 0 = M∧(g = 0→D[0]?.getD 0≠0)∧Below w.heap.size w wr
def RGInv (w:World) (q:Value) (qs D:List Nat) (G k G':Nat) (s5:Value) (wr:World):Prop:=
 ∃ E:List Nat,E.length = k∧Pl.Dig E∧G' * 10 ^ k+Pl.dval E 0 = G∧BOwn wr w.heap.size s5 ((E ++ D).reverse.map (48+·))∧Own wr w.heap.size q qs∧(qs.length = 0→G' = 0→E[0]?.getD 0≠0)∧Below w.heap.size w wr
theorem RGInv.next {w wr W':World} {q s5 v':Value} {qs D:List Nat} {G k G':Nat} {E:List Nat} (h1:E.length = k) (h2:Pl.Dig E) (h3:G' * 10 ^ k+Pl.dval E 0 = G) (h5:Own wr w.heap.size q qs) (h7:Below w.heap.size w wr) (hB:BOwn wr w.heap.size s5 ((E ++ D).reverse.map (48+·)))
  (hO:BOwn W' w.heap.size v' ((E ++ D).reverse.map (48+·) ++ [48+G' % 10])) (hap:Ap wr W' s5 v') (hg:0 < qs.length∨0 < G'):RGInv w q qs D G (k+1) (G' / 10) v' W':=by
 refine ⟨G' % 10 :: E,by simp [h1],?_,?_,?_,?_,?_,?_⟩
 ·intro d hd
  rcases List.mem_cons.1 hd with rfl|hd
  ·exact Nat.mod_lt _ (by decide)
  ·exact h2 d hd
 ·rw [digit_step E h1 rfl]; exact h3
 ·have e:((G' % 10 :: E) ++ D).reverse.map (48+·) = (E ++ D).reverse.map (48+·) ++ [48+G' % 10]:=by simp
  rw [e]; exact hO
 ·refine h5.keep (fun k hk hkv=>hap.block k hk (fun e=>?_))
  obtain ⟨cu,hcu⟩:=h5.type k hkv
  exact row_type hB e.symm hcu (by decide)
 ·intro hq0 hz
  simp
  omega
 ·exact h7.trans ⟨hap.os,hap.tape,hap.output,hap.size,fun q hq=>hap.block q (by have:=h7.size; omega) (fun e=>by have:=World.ownsRow.lt hB q e.symm; omega)⟩
theorem RGInv.zero {w wr:World} {q s5:Value} {qs D:List Nat} {G k G' kq:Nat} (h:RGInv w q qs D G k G' s5 wr) (hG:G < 1000000000) (hk:k = 9∨(kq = 0∧G' = 0)):G' = 0:=by
 rcases hk with hk|hk
 ·obtain ⟨E,_,_,g3,_⟩:=h
  rw [hk,show (10:Nat) ^ 9 = 1000000000 by decide] at g3
  omega
 ·exact hk.2
theorem RGInv.done {w wr:World} {a:Option Addr} {kq l:Nat} {qs D:List Nat} {V G k M:Nat} {s5:Value} (h:RGInv w (.slice a kq l) qs D G k 0 s5 wr) (hk:k = 9∨qs.length = 0) (hG:G = V % 1000000000) (hqv:Pl.val qs = V / 1000000000) (hqw:Pl.Wf qs) (hqN:Pl.Norm qs)
  (hD:Pl.Dig D) (hval:V * 10 ^ D.length+Pl.dval D 0 = M) (hq:qs.length = kq) (h16:kq≤16384):TInv w M (Pl.val qs) s5 (.slice a kq l) wr:=by
 obtain ⟨E,g1,g2,g3,g4,g5,g6,g7⟩:=h
 obtain ⟨a',c',he,_,_,hlim⟩:=g5.lim
 injection he with e1 e2 e3
 subst e1
 rw [Nat.zero_mul,Nat.zero_add] at g3
 refine ⟨a,kq,l,qs,E ++ D,rfl,hq,h16,hlim,hqw,hqN,rfl,g4,?_,?_,?_,g7⟩
 ·intro d hd
  rcases List.mem_append.1 hd with hd|hd
  ·exact g2 d hd
  ·exact hD d hd
 ·rw [List.length_append,Nat.add_comm E.length,g1]
  refine rtext_group (V:=V) (G:=G) (D:=Pl.dval D 0) (by omega) hval ?_ (by rw [dval_append,g3])
  rcases hk with hk|hk
  ·exact Or.inl hk
  ·right
   rw [List.length_eq_zero_iff.1 hk]; rfl
 ·intro hz
  have hq0:qs.length = 0:=by rw [Pl.norm_zero hqN hz]; rfl
  have h6:=g6 hq0 rfl
  have hE:0 < E.length:=by
   cases E with
   | nil=>simp at h6
   | cons e E=>simp
  rw [List.getElem?_append_left hE]
  exact h6
theorem lead_pos {D:List Nat} (h:D[0]?.getD 0≠0):0 < D.length:=by
 cases D with
 | nil=>simp at h
 | cons e E=>simp
theorem lead_bound {D:List Nat} {M n:Nat} (h:D[0]?.getD 0≠0) (hv:Pl.dval D 0 = M) (hM:M < 4294967296 ^ n):D.length≤10 * n:=by
 cases D with
 | nil=>simp
 | cons e E=>
  have h1:=Pl.lead_low (d:=e) (ds:=E) (by simpa using h)
  have:=groups_le (v:=1) hM (by omega) (p:=E.length) (by omega)
  simp
  omega
theorem rtext_some (b off cap n:Nat) (xs:List Nat) (w:World) (hn:Hid (xs.length = n)) (hp:0 < n) (hlen:n≤16384) (hw:Pl.Wf xs) (hN:Pl.Norm xs)
  (hc:∀ j,j < n→w.cell? ⟨b,off+j,none⟩ = some (.int .u32 ((xs[j]?.getD 0:Nat):Int))) :
  Calls Tryd.prog 34 #[.agg #[.slice (some ⟨b,off,none⟩) n cap]] w
   fun e w'=>∃ s:ByteArray,e = .returned (.tuple #[.string s,.int .i64 0])∧Says s (Pl.val xs)∧Below w.heap.size w w':=by
 have hl:Lim w (some ⟨b,off,none⟩) xs:=Or.inr ⟨b,off,rfl,fun j hj=>hc j (by rw [← unhide hn]; exact hj)⟩
 have hck:=rcheck_any (some ⟨b,off,none⟩) cap xs (w.alloc (.cells #[.slice (some ⟨b,off,none⟩) n cap] 65)) (by rw [unhide hn]; omega) (hl.alloc _)
 rw [unhide hn,chk_ok (by rw [unhide hn]; exact hlen) hN] at hck
 have HK:=hide hck
 have HL:=hide hl
 have hpos:0 < Pl.val xs:=by
  have h1:=Pl.norm_lower hN (by rw [unhide hn]; exact hp)
  have h2:0 < 4294967296 ^ (xs.length - 1):=Nat.pow_pos (by decide)
  omega
 have hM:Pl.val xs < 4294967296 ^ n:=by rw [← unhide hn]; exact Pl.val_lt hw
 have HMv:=hide hM
 have HP:=hide hpos
 clear hck hl hc hM hpos
 have hn0:((n:Int) == 0) = false:=by simp; omega
 go_enter Tryd.func34,Tryd.ntmps34
 go_wp2_with fail
 refine (unhide HK).mono ?_
 rintro e w1 ⟨rfl,hb1⟩
 have hbx:=(Box.made w (.slice (some ⟨b,off,none⟩) n cap)).kept hb1
 have hcx:=hbx.cell
 have HB1:=hide (gr_trans (gr_alloc w (.cells #[.slice (some ⟨b,off,none⟩) n cap] 65)) hb1)
 clear hb1 hbx HK
 go_wp2_with fail
 clear hcx
 obtain ⟨M,hMM⟩:∃ M,M = Pl.val xs:=⟨_,rfl⟩
 go_loopg [5,6] M (fun g s5 s6 wr=>TInv w M g s5 s6 wr)
 case atStart=>
  exact ⟨_,n,cap,xs,[],rfl,unhide hn,hlen,(unhide HL).below (unhide HB1),hw,hN,hMM.symm,BOwn.nil _ _,fun d hd=>by simp at hd,by simp [Pl.dval],fun h=>by have:=unhide HP; omega,unhide HB1⟩
 case round=>
  obtain ⟨a,l,c,cur,D,rfl,hcl,hl16,hlim,hcw,hcN,hcv,hback,hD,hval,hlead,hbel⟩:=hrel
  by_cases hg0:gk = 0
  ·subst hg0
   have hcn:cur = []:=Pl.norm_zero hcN hcv
   have hl0:l = 0:=by rw [← hcl,hcn]; rfl
   subst hl0
   obtain ⟨va,vm,vc,rfl,hvm⟩:=hback.slice
   have hDl:D.length = vm:=by simpa using hvm
   have hD0:=hlead rfl
   have hDv:Pl.dval D 0 = M:=by simpa using hval
   have hDb:=lead_bound hD0 hDv (by rw [hMM]; exact unhide HMv)
   have hDp:=lead_pos hD0
   obtain ⟨gb,rfl,hgb,hgb2,hbc⟩:=hback.open (by simp; omega)
   rw [List.length_map,List.length_reverse,hDl] at hbc
   have hvp:0 < vm:=by omega
   have hvb:vm≤163840:=by omega
   have hmk:=make_bytes (vm:Int) vm rfl (by omega)
   have HBC:=hide hbc
   have HD:=hide (And.intro hD (And.intro hD0 (And.intro hDv hDl)))
   have HBL:=hide hbel
   clear hbc hD hD0 hDv hDl hDb hDp hbel hback hvm hval hlead hcn hcv hcN hcw hlim hcl
   go_wp2
   clear hmk
   have HR0:Hid (BRow (wr.alloc (.cells (bc (List.replicate vm 0)) 5)) wr.heap.size ((D.map (48+·)).take 0 ++ List.replicate (vm - 0) 0)):=hide (by simpa using BRow.made wr (List.replicate vm 0))
   obtain ⟨go,hgo⟩:∃ go,wr.heap.size = go:=⟨_,rfl⟩
   have HB2:=hide (gr_trans (unhide HBL) (gr_alloc wr (.cells (bc (List.replicate vm 0)) 5)))
   have HBC2:Hid (∀ j,j < vm→(wr.alloc (.cells (bc (List.replicate vm 0)) 5)).cell? ⟨gb,j,none⟩ = some (.int .u8 (((D.reverse.map (48+·))[j]?.getD 0:Nat):Int))):=hide (fun j hj=>((gr_alloc wr _).cell (by exact hgb2)).trans (unhide HBC j hj))
   have hge:w.heap.size≤go:=by rw [← hgo]; exact (unhide HBL).size
   rw [hgo] at HR0
   rw [hgo] at hgb2
   simp only [hgo]
   clear HBC HBL
   go_loopw [11] (fun s11 wr2=>∃ k:Nat,k≤vm∧s11 = .int .i64 (k:Int)∧Hid (BRow wr2 go ((D.map (48+·)).take k ++ List.replicate (vm - k) 0)∧(∀ j,j < vm→wr2.cell? ⟨gb,j,none⟩ = some (.int .u8 (((D.reverse.map (48+·))[j]?.getD 0:Nat):Int)))∧Below w.heap.size w wr2)) (fun s11 _=>vm - (intOf s11).toNat)
   case atStart=>exact ⟨0,Nat.zero_le _,rfl,hide ⟨unhide HR0,unhide HBC2,unhide HB2⟩⟩
   case round=>
    clear HR0 HBC2 HB2
    obtain ⟨k,hk,rfl,HK⟩:=hrel
    obtain ⟨r1,r2,r3⟩:=unhide HK
    obtain ⟨d1,d2,d3,d4⟩:=unhide HD
    by_cases hkv:k < vm
    ·obtain ⟨z,hz⟩:∃ z,z = (D.map (48+·))[k]?.getD 0:=⟨_,rfl⟩
     have hz1:z < 256:=by
      rw [hz,List.getElem?_map,List.getElem?_eq_getElem (by omega)]
      have:=d1 _ (List.getElem_mem (l:=D) (n:=k) (by omega))
      simp
      omega
     have hcr:wr.cell? ⟨gb,vm - 1 - k,none⟩ = some (.int .u8 (z:Int)):=by rw [r2 _ (by omega),rev_at D k vm d4 hkv,hz]
     have hcs:=r1.cell k (by simp; omega)
     have hfs:=r1.frozen k
     have hset:=r1.set k z
     rw [hz,take_set _ _ _ hkv (by simpa using d4),← hz] at hset
     have HS:=hide (show BRow (wr.setCell ⟨go,k,none⟩ (.int .u8 (z:Int))) go _∧(∀ j,j < vm→(wr.setCell ⟨go,k,none⟩ (.int .u8 (z:Int))).cell? ⟨gb,j,none⟩ = some (.int .u8 (((D.reverse.map (48+·))[j]?.getD 0:Nat):Int)))∧Below w.heap.size w (wr.setCell ⟨go,k,none⟩ (.int .u8 (z:Int))) from
      ⟨hset,fun j hj=>by rw [World.cell?_of_block (w:=wr) (heap_setCell_other wr _ gb _ (by simp; omega))]; exact r2 j hj,r3.setCell hge _⟩)
     have hge0:gb≠go:=by omega
     clear r1 r2 r3 d1 d2 d3 d4 hz hset HK
     go_wp2
     go_roundw
     case rel=>exact ⟨k+1,by omega,by go_num,HS⟩
     case measure=>simp [intOf]; omega
    ·obtain rfl:k = vm:=by omega
     have hcv:=text_bytes wr go 0 0 k D (by simpa [List.take_of_length_le (show (D.map (48+·)).length≤k by simp; omega)] using r1) d1 (by omega) (by omega)
     rw [Nat.add_zero,Nat.sub_zero,List.drop_zero] at hcv
     generalize hs:(⟨(chars D).toArray⟩:ByteArray) = st at *
     have HSY:Hid (Says st (Pl.val xs)):=by
      refine hide ⟨D,by rw [← hs],d1,⟨?_,Or.inl d2⟩,by rw [d3,hMM]⟩
      intro e
      rw [e] at d2
      simp at d2
     have HR3:=hide r3
     clear r1 r2 r3 d1 d2 d3 d4 HK hs
     go_wp2
     go_ret2
     exact ⟨st,rfl,unhide HSY,unhide HR3⟩
  ·have hgp:0 < gk:=by omega
   rcases hlim.parts with hx|⟨hp',b',off',rfl,hlt',hc'⟩
   ·rw [hx] at hcv; simp [Pl.val] at hcv; omega
   ·have hlp:0 < l:=by omega
    have hp10:D.length < 10 * n:=groups_le (unhide HMv) hgp (by rw [← hMM]; omega)
    have HO:=hide (rover_some b' off' c 1000000000 l cur wr (hide hcl) hl16 (by omega) (by omega) hcw hlt' (fun j hj=>hc' j (by omega)))
    have HI:=hide (And.intro hD (And.intro hval (And.intro hback hbel)))
    rw [hcv] at HO
    clear hD hval hback hlead hbel hc' hlt' hlim hcw hcN hcv hcl hp' hg0
    go_wp2_with fail
    refine (unhide HO).mono ?_
    rintro e w2 ⟨⟨kq,qs,rfl,hkq,hql,hqo,hqw,hqN,hqv⟩,hb2⟩
    obtain ⟨G,hG⟩:∃ G,G = gk % 1000000000:=⟨_,rfl⟩
    rw [← hG]
    have hG9:G < 1000000000:=by omega
    have HQ:=hide (And.intro hqw (And.intro hqN (And.intro hqv hG)))
    have HG0:Hid (RGInv w (.slice (some ⟨wr.heap.size,0,none⟩) kq l) qs D G 0 G _ w2):=hide (by
     obtain ⟨hD,hval,hback,hbel⟩:=unhide HI
     refine ⟨[],rfl,fun d hd=>by simp at hd,by simp [Pl.dval],by simpa using hback.kept hb2,hqo.mono hbel.size,fun h0 h1=>?_,gr_trans hbel hb2⟩
     have:qs = []:=List.length_eq_zero_iff.1 h0
     rw [this] at hqv
     simp [Pl.val] at hqv
     omega)
    have hkq16:kq≤16384:=by omega
    have HQL:=hide hql
    clear hqo hqw hqN hqv hG hb2 HO hql hkq
    go_wp2_with fail
    go_loopw [5,8,9] (fun s5 s8 s9 wr2=>∃ (k G':Nat),k≤9∧s9 = .int .i64 (k:Int)∧s8 = .int .u64 (G':Int)∧G' < 1000000000∧Hid (RGInv w (.slice (some ⟨wr.heap.size,0,none⟩) kq l) qs D G k G' s5 wr2)) (fun _ _ s9 _=>9 - (intOf s9).toNat)
    case atStart=>exact ⟨0,G,by omega,rfl,rfl,hG9,HG0⟩
    case round=>
     clear HG0
     obtain ⟨k,G',hk9,rfl,rfl,hG'9,HGI⟩:=hrel
     by_cases hgo:k < 9∧(0 < kq∨0 < G')
     ·obtain ⟨hk8,hgo2⟩:=hgo
      obtain ⟨E,g1,g2,g3,g4,g5,g6,g7⟩:=unhide HGI
      obtain ⟨va,vm,vc,rfl,hvm⟩:=g4.slice
      obtain ⟨v',W',hrun,hO',hap⟩:=append_byte wr w.heap.size (48+G' % 10) _ _ g4 g7.size (by simp; omega)
      have HNX:=hide (RGInv.next (D:=D) g1 g2 g3 g5 g7 g4 hO' hap (by have:=unhide HQL; omega))
      have e2:((48+G' % 10:Nat):Int) = 48+(G':Int) % 10:=by omega
      rw [e2] at hrun
      have HRUN:=hide hrun
      clear g1 g2 g3 g4 g5 g6 g7 hO' hap hrun e2 HGI hvm
      rcases hgo2 with hA|hA
      ·go_wp2_with (at_builtin; refine wpList_append_run rfl (.tmp 44) (.tmp 49) 112 rfl (unhide HRUN) ?_)
       go_roundw
       case rel=>exact ⟨k+1,G' / 10,by omega,by go_num,by go_num,by omega,HNX⟩
       case measure=>simp [intOf]; omega
      ·by_cases hB:kq = 0
       ·subst hB
        go_wp2_with (at_builtin; refine wpList_append_run rfl (.tmp 44) (.tmp 49) 112 rfl (unhide HRUN) ?_)
        go_roundw
        case rel=>exact ⟨k+1,G' / 10,by omega,by go_num,by go_num,by omega,HNX⟩
        case measure=>simp [intOf]; omega
       ·have hB2:0 < kq:=by omega
        go_wp2_with (at_builtin; refine wpList_append_run rfl (.tmp 44) (.tmp 49) 112 rfl (unhide HRUN) ?_)
        go_roundw
        case rel=>exact ⟨k+1,G' / 10,by omega,by go_num,by go_num,by omega,HNX⟩
        case measure=>simp [intOf]; omega
     ·have hex:k = 9∨(kq = 0∧G' = 0):=by omega
      obtain rfl:=(unhide HGI).zero hG9 hex
      obtain ⟨q1,q2,q3,q4⟩:=unhide HQ
      obtain ⟨i1,i2,i3,i4⟩:=unhide HI
      have HTI:=hide ((unhide HGI).done (by have:=unhide HQL; omega) q4 q3 q1 q2 i1 i2 (unhide HQL) hkq16)
      have hms:Pl.val qs < gk:=by omega
      have HMS:=hide hms
      clear q1 q2 q3 q4 i1 i2 i3 i4 HGI hms hgo
      rcases hex with rfl|⟨rfl,_⟩
      ·go_wp2
       go_roundg (Pl.val qs)
       case measure=>exact unhide HMS
       case rel=>exact unhide HTI
      ·by_cases hk9':k = 9
       ·subst hk9'
        go_wp2
        go_roundg (Pl.val qs)
        case measure=>exact unhide HMS
        case rel=>exact unhide HTI
       ·have hk8:k < 9:=by omega
        go_wp2
        go_roundg (Pl.val qs)
        case measure=>exact unhide HMS
        case rel=>exact unhide HTI
theorem rtext_nil (a:Option Addr) (cap:Nat) (w:World) :
  Calls Tryd.prog 34 #[.agg #[.slice a 0 cap]] w fun e w'=>∃ s:ByteArray,e = .returned (.tuple #[.string s,.int .i64 0])∧Says s 0∧Below w.heap.size w w':=by
 have hck:=rcheck_any a cap [] (w.alloc (.cells #[.slice a 0 cap] 65)) (by simp) (Or.inl rfl)
 rw [chk_ok (by simp) Pl.norm_nil] at hck
 have HK:=hide hck
 clear hck
 go_enter Tryd.func34,Tryd.ntmps34
 go_wp2_with fail
 refine (unhide HK).mono ?_
 rintro e w1 ⟨rfl,hb1⟩
 obtain ⟨hc1,hf1⟩:=bcell hb1
 go_wp2
 go_ret2
 exact ⟨_,rfl,says_zero,gr_trans (gr_alloc _ _) hb1⟩
theorem rtext_any (a:Option Addr) (n cap m:Nat) (w:World) (h:Num w a n m) :
  Calls Tryd.prog 34 #[.agg #[.slice a n cap]] w fun e w'=>∃ s:ByteArray,e = .returned (.tuple #[.string s,.int .i64 0])∧Says s m∧Below w.heap.size w w':=by
 obtain ⟨xs,hn,hl,hw,hN,hv,hb⟩:=h
 rcases hl.parts with hx|⟨hp,b,off,rfl,hlt,hc⟩
 ·subst hx
  have hn0:n = 0:=by rw [← hn]; rfl
  have hm0:m = 0:=by rw [← hv]; rfl
  subst hn0 hm0
  exact rtext_nil a cap w
 ·rw [← hv]
  exact rtext_some b off cap n xs w (hide hn) (by omega) hb hw hN (fun j hj=>hc j (by omega))
end Go.Proofs.YteblliofeaahmaaDoor
