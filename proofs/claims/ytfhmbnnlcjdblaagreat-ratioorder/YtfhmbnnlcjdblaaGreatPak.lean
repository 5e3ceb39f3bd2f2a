/- Of what RatioOrderRow stands on: Text PutGroup. -/
import Derived.Test.YtfhmbnnlcjdblaaGreatPab
import Derived.Test.YtfhmbnnlcjdblaaGreatPaa
namespace Go.Proofs.YtfhmbnnlcjdblaaGreat
open Go.RowKit
set_option maxHeartbeats 4000000
def bc (ds:List Nat):Array Value:=(ds.map (fun z:Nat=>Value.int .u8 (z:Int))).toArray
def BRow (w:World) (B:Nat) (ds:List Nat):Prop:=w.heap[B]? = some (.cells (bc ds) 5 (0,0))
theorem bc_at (zs:List Nat) (j:Nat) (h:j < zs.length):(bc zs)[j]? = some (.int .u8 ((zs[j]?.getD 0:Nat):Int)):=by simp [bc,h]
theorem bc_set (zs:List Nat) (j v:Nat):(bc zs).setIfInBounds j (.int .u8 (v:Int)) = bc (zs.set j v):=by
 simp [bc,List.setIfInBounds_toArray,List.map_set]
theorem BRow.cell {w:World} {B:Nat} {zs:List Nat} (h:BRow w B zs) (j:Nat) (hj:j < zs.length):w.cell? ⟨B,j,none⟩ = some (.int .u8 ((zs[j]?.getD 0:Nat):Int)):=by
 rw [cell_of_row w B j _ _ _ h,bc_at zs j hj]
theorem BRow.frozen {w:World} {B:Nat} {zs:List Nat} (h:BRow w B zs) (j:Nat):w.frozen? ⟨B,j,none⟩ = false:=frozen_of_row w B j _ _ h
theorem BRow.set {w:World} {B:Nat} {zs:List Nat} (h:BRow w B zs) (j v:Nat):BRow (w.setCell ⟨B,j,none⟩ (.int .u8 (v:Int))) B (zs.set j v):=by
 unfold BRow; rw [heap_setCell_same w B j _ _ _ h,bc_set]
theorem BRow.lt {w:World} {B:Nat} {zs:List Nat} (h:BRow w B zs):B < w.heap.size:=by
 by_cases hlt:B < w.heap.size
 ·exact hlt
 ·unfold BRow at h; rw [Array.getElem?_eq_none (by omega)] at h; cases h
theorem BRow.only {w w':World} {B C:Nat} {zs:List Nat} (h:BRow w B zs) (k:Only C w w') (hne:B≠C):BRow w' B zs:=by
 unfold BRow; rw [k.block B hne]; exact h
theorem BRow.ne {w:World} {B C:Nat} {zs xs:List Nat} (h:BRow w B zs) (k:Row w C xs):B≠C:=by
 rintro rfl
 obtain ⟨tl,k⟩:=k
 unfold BRow at h
 rw [k] at h
 simp at h
theorem Tryz.info_byte:(Tryz.prog.info? 5).map (fun i=>(i.zero,i.size,i.bytes)) = some (some (.int .u8 0),1,1):=by kernel_rfl
theorem Tryz.under_bytes:Tryz.prog.underlying 92 = some (.slice 5):=by kernel_rfl
theorem made_bc (n:Nat):madeCells #[.int .u8 0] n = bc (List.replicate n 0):=by
 apply Array.toList_inj.1
 rw [toList_madeCells_one]
 simp [bc]
theorem make_bytes (C:Int) (n:Nat) (hC:C = (n:Int)) (hn:n≤1073741824) (w:World) :
  (Instr.makeSlice 92 (.int .i64 C) (.int .i64 C)).run Tryz.prog w = .ok (.slice (some ⟨w.heap.size,0,none⟩) n n) (w.alloc (.cells (bc (List.replicate n 0)) 5)):=by
 obtain ⟨i,hi,hz,hs,hb⟩:=info_parts Tryz.info_byte
 have:=run_make (P:=Tryz.prog) w 92 5 i (.int .u8 0) Tryz.under_bytes hi hz .i64 .i64 C C (by omega) (Int.le_refl _) (by rw [hb]; omega) (by omega)
 rw [this,hC,hs]
 simp only [Int.toNat_natCast,Nat.mul_one,Value.cells,made_bc]
theorem BRow.made (w:World) (zs:List Nat):BRow (w.alloc (.cells (bc zs) 5)) w.heap.size zs:=heap_alloc_new w _
def chars (ds:List Nat):List UInt8:=ds.map (fun d=>UInt8.ofNat (48+d))
def Says (s:ByteArray) (m:Nat):Prop:=∃ ds,s.data.toList = chars ds∧Pl.Dig ds∧Pl.Lead ds∧Pl.dval ds 0 = m
theorem dval_append (xs ys:List Nat):Pl.dval (xs ++ ys) 0 = Pl.dval xs 0 * 10 ^ ys.length+Pl.dval ys 0:=by
 have h:∀ (xs:List Nat) (a:Nat),Pl.dval (xs ++ ys) a = Pl.dval ys (Pl.dval xs a):=by
  intro xs
  induction xs with
  | nil=>intro a; rfl
  | cons x xs ih=>intro a; exact ih _
 rw [h,Pl.dval_eq]
theorem groups_le {M n p v:Nat} (h:M < 4294967296 ^ n) (hv:0 < v) (hM:v * 10 ^ p≤M):p < 10 * n:=by
 have h1:10 ^ p < 4294967296 ^ n:=by
  have:1 * 10 ^ p≤v * 10 ^ p:=Nat.mul_le_mul_right _ hv
  omega
 have h2:4294967296 ^ n≤10 ^ (10 * n):=by
  rw [Nat.pow_mul]; exact Nat.pow_le_pow_left (by decide) n
 by_cases hp:p < 10 * n
 ·exact hp
 ·have:=Nat.pow_le_pow_right (show 0 < 10 by decide) (show 10 * n≤p by omega)
  omega
theorem digit_step {G es q:Nat} (e:List Nat) (he:e.length = q) (hv:Pl.dval e 0 = es):G / 10 * 10 ^ (q+1)+Pl.dval (G % 10 :: e) 0 = G * 10 ^ q+es:=by
 rw [Pl.dval_cons,he,hv,Nat.pow_succ,Nat.mul_comm (10 ^ q) 10,← Nat.mul_assoc,← Nat.add_assoc,← Nat.add_mul]
 congr 2
 omega
theorem group_step {V Q G p M D E:Nat} (hV:Q = V / 1000000000) (hG:G = V % 1000000000) (h:V * 10 ^ p+D = M) (hE:E = G):Q * 10 ^ (p+9)+(E * 10 ^ p+D) = M:=by
 have e:V = Q * 1000000000+G:=by omega
 rw [← h,e,hE,Nat.pow_add,Nat.add_mul,Nat.mul_comm (10 ^ p) (10 ^ 9),← Nat.mul_assoc,Nat.add_assoc]
theorem set_rep0 (k v:Nat) (l:List Nat):(List.replicate (k+1) 0 ++ l).set k v = List.replicate k 0 ++ (v :: l):=by
 have e:=set_rep k v l []
 simpa using e
theorem dval_zeros (ds:List Nat) (k:Nat) (hk:k≤ds.length) (h:∀ j,j < k→ds[j]?.getD 0 = 0):Pl.dval (ds.drop k) 0 = Pl.dval ds 0:=by
 induction k with
 | zero=>rfl
 | succ k ih=>
  rw [← ih (by omega) (fun j hj=>h j (by omega)),Pl.drop_cons ds k (by omega),Pl.dval_cons,h k (by omega)]
  simp
theorem Tryz.under_byte:Tryz.prog.underlying 5 = some (.int .u8):=by kernel_rfl
theorem Tryz.under_string:Tryz.prog.underlying 9 = some .string:=by kernel_rfl
theorem text_bytes (w:World) (B at0 k L:Nat) (ds:List Nat) (h:BRow w B (List.replicate at0 0 ++ ds.map (48+·))) (hd:Pl.Dig ds) (hL:at0+ds.length = L) (hk:k≤ds.length) :
  (convert 92 9 (.slice (some ⟨B,at0+k,none⟩) (L - (at0+k)) (L - (at0+k)))).run Tryz.prog w = .ok (.string ⟨(chars (ds.drop k)).toArray⟩) w:=by
 have e:L - (at0+k) = (chars (ds.drop k)).length:=by simp [chars]; omega
 rw [e]
 refine run_convert_bytes_back w 92 9 5 ⟨B,at0+k,none⟩ _ _ Tryz.under_bytes Tryz.under_byte Tryz.under_string ?_
 intro j hj
 have hj2:k+j < ds.length:=by simp [chars] at hj; omega
 have hdl:ds[k+j] < 10:=hd _ (List.getElem_mem _)
 rw [Addr.add_lit,h.cell (at0+k+j) (by simp; omega),List.getElem?_append_right (by simp; omega),List.length_replicate,show at0+k+j - at0 = k+j by omega,List.getElem?_map,List.getElem?_eq_getElem hj2]
 simp [chars]
 omega
theorem text_some (b off cap n:Nat) (xs:List Nat) (w:World) (hn:Hid (xs.length = n)) (hp:0 < n) (hlen:n≤16384) (hw:Pl.Wf xs) (hN:Pl.Norm xs) (hlt:b < w.heap.size)
  (hc:∀ j,j < n→w.cell? ⟨b,off+j,none⟩ = some (.int .u32 ((xs[j]?.getD 0:Nat):Int))) :
  Calls Tryz.prog 37 #[.agg #[.slice (some ⟨b,off,none⟩) n cap]] w
   fun e w'=>∃ s:ByteArray,e = .returned (.tuple #[.string s,.int .i64 0])∧Says s (Pl.val xs)∧Below w.heap.size w w':=by
 have hl:Lim w (some ⟨b,off,none⟩) xs:=Or.inr ⟨b,off,rfl,fun j hj=>hc j (by rw [← unhide hn]; exact hj)⟩
 have hck:=check_any (some ⟨b,off,none⟩) cap xs (w.alloc (.cells #[.slice (some ⟨b,off,none⟩) n cap] 27)) (by rw [unhide hn]; omega) (hl.alloc _)
 rw [unhide hn,chk_ok (by rw [unhide hn]; exact hlen) hN] at hck
 have HK:=hide hck
 clear hck hl
 have hn0:((n:Int) == 0) = false:=by simp; omega
 have hmk:=make_bytes (10 * (n:Int)+9) (10 * n+9) (by omega) (by omega)
 go_enter Tryz.func37,Tryz.ntmps37
 go_wp2_with fail
 refine (unhide HK).mono ?_
 rintro e w1 ⟨rfl,hb1⟩
 obtain ⟨hc1,hf1⟩:=bcell hb1
 go_wp2_with fail
 have hBw:=gr_trans (gr_alloc w (.cells #[.slice (some ⟨b,off,none⟩) n cap] 27)) hb1
 refine (clone_some b off cap n xs w1 hn hp (by omega) (Nat.lt_of_lt_of_le hlt hBw.size) (fun j hj=>(hBw.cell (by exact hlt)).trans (hc j hj))).mono ?_
 rintro e w2 ⟨g,c,rfl,hg,hgc,hc9,hrow,_,hb2⟩
 have HB2:=hide (gr_trans hBw hb2)
 have hs2:w.heap.size≤w1.heap.size:=hBw.size
 clear hb1 hb2 hc1 hf1 hBw HK hc
 go_wp2
 have hgT:g≠w2.heap.size:=Nat.ne_of_lt hrow.lt
 have hgw:w.heap.size≤g:=Nat.le_trans hs2 hg
 have hTw:w.heap.size≤w2.heap.size:=(unhide HB2).size
 have hM:Pl.val xs < 4294967296 ^ n:=by rw [← unhide hn]; exact Pl.val_lt hw
 have HMv:=hide hM
 have HR0:=hide (hrow.kept (gr_alloc w2 (.cells (bc (List.replicate (10 * n+9) 0)) 5)))
 have hxn:=unhide hn
 clear hM hrow hmk
 go_loopw [5,7] (fun r t wr=>∃ (l c' p at0:Nat) (cur ds:List Nat),r = .slice (some ⟨g,0,none⟩) l c'∧t = .int .i64 (at0:Int)∧cur.length = l∧l≤n∧l≤c'∧c'≤9223372036854775807∧at0+p = 10 * n+9∧ds.length = p∧Pl.Wf cur∧Pl.Norm cur∧Pl.Dig ds ∧
   Pl.val cur * 10 ^ p+Pl.dval ds 0 = Pl.val xs∧Row wr g cur∧BRow wr w2.heap.size (List.replicate at0 0 ++ ds.map (48+·))∧Below w.heap.size w wr) (fun _ t _=>(intOf t).toNat)
 case atStart=>
  refine ⟨n,c,0,10 * n+9,xs,[],rfl,by go_num,hxn,Nat.le_refl _,hgc,hc9,by omega,rfl,hw,hN,fun d hd=>by simp at hd,by simp [Pl.dval],unhide HR0,?_,gr_trans (unhide HB2) (gr_alloc _ _)⟩
  rw [List.map_nil,List.append_nil]; exact BRow.made _ _
 case round=>
  obtain ⟨l,c',p,at0,cur,ds,rfl,rfl,hcl,hln,hlc,hc9',hat,hdl,hcw,hcN,hdd,hval,hrw,hbr,hbel⟩:=hrel
  have HV:=hide hval
  have HCL:=hide hcl
  clear hval hcl hxn
  by_cases hl0:l = 0
  ·subst hl0
   have hcn:cur = []:=List.length_eq_zero_iff.1 (unhide HCL)
   have hdv:Pl.dval ds 0 = Pl.val xs:=by have:=unhide HV; rw [hcn] at this; simpa [Pl.val] using this
   have HDV:=hide hdv
   have hpos:0 < Pl.val xs:=by
    have h1:=Pl.norm_lower hN (by rw [unhide hn]; exact hp)
    have h2:0 < 4294967296 ^ (xs.length - 1):=Nat.pow_pos (by decide)
    omega
   have hfin:∀ k,k≤p→(∀ j,j < k→ds[j]?.getD 0 = 0)→k < p:=by
    intro k hk h
    by_cases e:k = p
    ·have:=dval_zeros ds k (by omega) h
     rw [List.drop_eq_nil_of_le (by omega)] at this
     rw [← this] at hdv
     simp [Pl.dval] at hdv
     omega
    ·omega
   have HF:=hide hfin
   clear hdv hcn hfin
   go_wp2
   go_loop [7] (fun t=>∃ k:Nat,k≤p∧t = .int .i64 ((at0:Int)+(k:Int))∧∀ j,j < k→ds[j]?.getD 0 = 0) (fun t=>10 * n+9 - (intOf t).toNat)
   case atStart=>exact ⟨0,by omega,by simp,fun j hj=>by omega⟩
   case round=>
    obtain ⟨k,hkp,rfl,hz⟩:=hrel
    have hkp2:k < p:=unhide HF k hkp hz
    obtain ⟨d,hd⟩:∃ d,d = ds[k]?.getD 0:=⟨_,rfl⟩
    have hd10:d < 10:=by
     rw [hd]
     rw [List.getElem?_eq_getElem (by omega)]
     exact hdd _ (List.getElem_mem _)
    have hcd:wr.cell? ⟨w2.heap.size,at0+k,none⟩ = some (.int .u8 (48+(d:Int))):=by
     rw [hbr.cell (at0+k) (by simp; omega),List.getElem?_append_right (by simp),List.length_replicate,Nat.add_sub_cancel_left,List.getElem?_map,List.getElem?_eq_getElem (by omega)]
     rw [List.getElem?_eq_getElem (by omega)] at hd
     simp at hd
     simp [← hd]
    have HZ:=hide hz
    have HD:=hide hd
    clear hz hd
    by_cases hd0:d = 0
    ·subst hd0
     go_wp2
     go_round
     case rel=>
      refine ⟨k+1,by omega,by go_num,fun j hj=>?_⟩
      by_cases e:j = k
      ·rw [e]; exact (unhide HD).symm
      ·exact unhide HZ j (by omega)
     case measure=>simp [intOf]; omega
    ·obtain ⟨v,hv⟩:∃ v,v = 48+d:=⟨_,rfl⟩
     have hcd2:wr.cell? ⟨w2.heap.size,at0+k,none⟩ = some (.int .u8 (v:Int)):=by rw [hcd,hv]; rfl
     have hdb:((v:Int) == 48) = false:=by simp; omega
     have hcv:=text_bytes wr w2.heap.size at0 k (10 * n+9) ds hbr hdd (by omega) (by omega)
     generalize hs:(⟨(chars (ds.drop k)).toArray⟩:ByteArray) = s at *
     have HS:=hide hs
     have HSY:Hid (Says s (Pl.val xs)):=by
      refine ⟨ds.drop k,by rw [← hs],fun x hx=>hdd x (List.mem_of_mem_drop hx),⟨?_,Or.inl ?_⟩,by rw [dval_zeros ds k (by omega) (unhide HZ)]; exact unhide HDV⟩
      ·intro e
       have:=congrArg List.length e
       simp at this
       omega
      ·rw [Pl.drop_cons ds k (by omega),← unhide HD]; simpa using hd0
     clear hbr hcd hv hd0 hs
     go_wp2
     go_ret2
     exact ⟨s,rfl,unhide HSY,hbel⟩
  ·have hlp:0 < l:=by omega
   go_wp2_with fail
   refine (cutGroup_any g c' l cur [] wr HCL (by omega) hcw (by rw [List.append_nil]; exact hrw)).mono ?_
   rintro e w3 ⟨qs,rfl,hql,hqw,hqv,hr3,ho3⟩
   rw [List.append_nil] at hr3
   generalize hG:Pl.val cur % 1000000000 = G at *
   have hG9:G < 1000000000:=by omega
   have HG:=hide hG
   have HQV:=hide hqv
   have hbr3:=hbr.only ho3 hgT.symm
   have hbel3:=ho3.below hbel hgw
   have hcv:0 < Pl.val cur:=by
    have h1:=Pl.norm_lower hcN (by rw [unhide HCL]; exact hlp)
    have h2:0 < 4294967296 ^ (cur.length - 1):=Nat.pow_pos (by decide)
    omega
   have hp10:p < 10 * n:=groups_le (unhide HMv) hcv (by have:=unhide HV; omega)
   clear hG hqv hbr hbel hrw ho3 hcv
   go_wp2_with fail
   refine (trim_at g 0 l c' qs w3 hql hlc hc9' (fun j hj=>by rw [Nat.zero_add]; exact hr3.cell j hj)).mono ?_
   rintro e w4 ⟨rfl,l2,hl2,h0,h1,rfl⟩
   have HT:=hide (trim_row hr3 (Nat.zero_le _) (by omega) hqw hl2 h0 h1)
   clear h0 h1
   go_wp2_with fail
   go_loopw [7,8,35] (fun t gr i wr2=>∃ (q G' at2:Nat) (es:List Nat),q≤9∧i = .int .i64 (q:Int)∧gr = .int .u32 (G':Int)∧t = .int .i64 (at2:Int)∧at2+q = at0∧G' < 1000000000∧es.length = q∧Pl.Dig es∧G' * 10 ^ q+Pl.dval es 0 = G ∧
     BRow wr2 w2.heap.size (List.replicate at2 0 ++ (es ++ ds).map (48+·))∧Row wr2 g qs∧Below w.heap.size w wr2) (fun _ _ i _=>9 - (intOf i).toNat)
   case atStart=>exact ⟨0,G,at0,[],by omega,rfl,rfl,rfl,rfl,hG9,rfl,fun d hd=>by simp at hd,by simp [Pl.dval],hbr3,hr3,hbel3⟩
   case round=>
    clear hbr3 hr3 hbel3
    obtain ⟨q,G',at2,es,hq9,rfl,rfl,rfl,ha2,hG'9,hel,hed,hev,hbr4,hr4,hbel4⟩:=hrel
    have HEV:=hide hev
    have HEL:=hide hel
    clear hev hel
    by_cases hq:q < 9
    ·obtain ⟨at3,rfl⟩:∃ at3,at2 = at3+1:=⟨at2 - 1,by omega⟩
     have hcs:=hbr4.cell at3 (by simp; omega)
     have hfs:=hbr4.frozen at3
     have hs:=hbr4.set at3 (48+G' % 10)
     rw [set_rep0] at hs
     have HS:=hide hs
     have HR4:=hide hr4
     have hne4:=hbr4.ne hr4
     clear hbr4 hr4 hs
     go_wp2
     go_roundw
     case rel=>
      have e1:(48:Int)+(G':Int) % 10 = ((48+G' % 10:Nat):Int):=by omega
      have e2:(G':Int) / 10 = ((G' / 10:Nat):Int):=by omega
      rw [e1,e2]
      refine ⟨q+1,G' / 10,at3,G' % 10 :: es,by omega,by go_num,rfl,rfl,by omega,by omega,by simp [unhide HEL],?_,?_,unhide HS,(unhide HR4).only ((Only.refl _ wr).setCell at3 _) hgT,hbel4.setCell hTw _⟩
      ·intro d hd
       rcases List.mem_cons.1 hd with rfl|hd
       ·omega
       ·exact hed d hd
      ·rw [digit_step es (unhide HEL) rfl]; exact unhide HEV
     case measure=>simp [intOf]; omega
    ·have hq9':q = 9:=by omega
     subst hq9'
     go_wp2
     go_roundw
     case rel=>
      obtain ⟨t1,t2,t3,t4,t5⟩:=unhide HT
      have hE:Pl.dval es 0 = G:=by have:=unhide HEV; omega
      refine ⟨l2,l2,p+9,at2,qs.take l2,es ++ ds,rfl,rfl,t1,by omega,Nat.le_refl _,by omega,by omega,by rw [List.length_append,unhide HEL]; omega,t3,t4,?_,?_,hr4.prefix l2,hbr4,hbel4⟩
      ·intro d hd
       rcases List.mem_append.1 hd with hd|hd
       ·exact hed d hd
       ·exact hdd d hd
      ·rw [t5,dval_append,hdl]
       exact group_step (unhide HQV) (unhide HG).symm (unhide HV) hE
     case measure=>simp [intOf]; omega
theorem says_zero:Says ⟨#[48]⟩ 0:=⟨[0],rfl,fun d hd=>by simp at hd; omega,⟨by simp,Or.inr rfl⟩,rfl⟩
theorem text_nil (a:Option Addr) (cap:Nat) (w:World) :
  Calls Tryz.prog 37 #[.agg #[.slice a 0 cap]] w fun e w'=>∃ s:ByteArray,e = .returned (.tuple #[.string s,.int .i64 0])∧Says s 0∧Below w.heap.size w w':=by
 have hck:=check_any a cap [] (w.alloc (.cells #[.slice a 0 cap] 27)) (by simp) (Or.inl rfl)
 rw [chk_ok (by simp) Pl.norm_nil] at hck
 have HK:=hide hck
 clear hck
 go_enter Tryz.func37,Tryz.ntmps37
 go_wp2_with fail
 refine (unhide HK).mono ?_
 rintro e w1 ⟨rfl,hb1⟩
 obtain ⟨hc1,hf1⟩:=bcell hb1
 go_wp2
 go_ret2
 exact ⟨_,rfl,says_zero,gr_trans (gr_alloc _ _) hb1⟩
theorem text_any (a:Option Addr) (n cap m:Nat) (w:World) (h:Num w a n m) :
  Calls Tryz.prog 37 #[.agg #[.slice a n cap]] w fun e w'=>∃ s:ByteArray,e = .returned (.tuple #[.string s,.int .i64 0])∧Says s m∧Below w.heap.size w w':=by
 obtain ⟨xs,hn,hl,hw,hN,hv,hb⟩:=h
 rcases hl.parts with hx|⟨hp,b,off,rfl,hlt,hc⟩
 ·subst hx
  have hn0:n = 0:=by rw [← hn]; rfl
  have hm0:m = 0:=by rw [← hv]; rfl
  subst hn0 hm0
  exact text_nil a cap w
 ·rw [← hv]
  exact text_some b off cap n xs w (hide hn) (by omega) hb hw hN hlt (fun j hj=>hc j (by omega))
theorem says_eq {s t:ByteArray} {m:Nat} (h:Says s m) (k:Says t m):s = t:=by
 obtain ⟨ds,h1,h2,h3,h4⟩:=h
 obtain ⟨es,k1,k2,k3,k4⟩:=k
 have e:=Pl.dval_inj h2 k2 h3 k3 (by omega)
 subst e
 have:s.data = t.data:=Array.toList_inj.1 (by rw [h1,k1])
 cases s; cases t; simpa using this
def Room (w:World) (g:Nat) (xs:List Nat) (c:Nat):Prop:=∃ tl:Array Value,w.heap[g]? = some (.cells (lc xs ++ tl) 40 (0,0))∧xs.length+tl.size = c∧c≤9223372036854775807
theorem Room.row {w:World} {g c:Nat} {xs:List Nat} (h:Room w g xs c):Row w g xs:=by
 obtain ⟨tl,h,_⟩:=h
 exact ⟨tl,h⟩
theorem Room.len {w:World} {g c:Nat} {xs:List Nat} (h:Room w g xs c):xs.length≤c∧c≤9223372036854775807:=by
 obtain ⟨tl,_,h1,h2⟩:=h
 omega
theorem Room.set {w:World} {g c:Nat} {xs:List Nat} (h:Room w g xs c) (j v:Nat) (hj:j < xs.length):Room (w.setCell ⟨g,j,none⟩ (.int .u32 (v:Int))) g (xs.set j v) c:=by
 obtain ⟨tl,h,h1,h2⟩:=h
 refine ⟨tl,?_,by rw [List.length_set]; exact h1,h2⟩
 rw [heap_setCell_same w g j _ _ _ h,Array.setIfInBounds_append_left (by rw [size_lc]; exact hj),lc_set]
theorem Room.made (w:World) (n:Nat) (hn:n≤9223372036854775807):Room (w.alloc (.cells (lc (List.replicate n 0)) 40)) w.heap.size [] n:=
 ⟨lc (List.replicate n 0),by rw [heap_alloc_new]; simp [lc],by rw [size_lc]; simp,hn⟩
theorem Room.owns {w:World} {g c base:Nat} {xs:List Nat} (h:Room w g xs c) (hb:base≤g):w.ownsRow base 40 1 (.slice (some ⟨g,0,none⟩) xs.length c) xs.length (xs.map (fun z:Nat=>Value.int .u32 (z:Int))):=by
 obtain ⟨tl,hh,h1,h2⟩:=h
 refine ⟨by simp,.inr ⟨g,c,_,rfl,hb,hh,by omega,by unfold maxLen; exact h2,?_,?_⟩⟩
 ·rw [Array.size_append,size_lc]; omega
 ·rw [Array.toList_append,List.take_append_of_le_length (by simp [lc])]
  simp only [lc,Nat.mul_one]
  rw [List.take_of_length_le (by simp)]
theorem room_of {w:World} {base n:Nat} {v:Value} {xs:List Nat} (hn:xs.length = n) (hp:0 < n) (h:w.ownsRow base 40 1 v n (xs.map (fun z:Nat=>Value.int .u32 (z:Int)))) :
  ∃ g c,v = .slice (some ⟨g,0,none⟩) n c∧base≤g∧Room w g xs c:=by
 obtain ⟨_,h|⟨g,c,cur,hv,hg,hh,h1,h2,h3,h4⟩⟩:=h
 ·omega
 ·have hcur:cur = lc xs ++ (cur.toList.drop n).toArray:=by
   apply Array.toList_inj.1
   rw [Array.toList_append]
   simp only [lc]
   rw [← h4,Nat.mul_one,List.take_append_drop]
  refine ⟨g,c,hv,hg,(cur.toList.drop n).toArray,by rw [← hcur]; exact hh,?_,by unfold maxLen at h2; exact h2⟩
  simp
  omega
def DigS (s:ByteArray) (ds:List Nat):Prop:=s.size = ds.length∧Pl.Dig ds∧∀ (k:Nat) (h:k < s.size),(s[k]'h).toNat = 48+ds[k]?.getD 0
theorem dval_snoc (ds:List Nat) (k:Nat) (h:k < ds.length):Pl.dval (ds.take (k+1)) 0 = Pl.dval (ds.take k) 0 * 10+ds[k]?.getD 0:=by
 rw [Pl.take_snoc ds k h,dval_append]
 simp [Pl.dval]
theorem pg_step {o c f p s t B q r G:Nat} (B':Nat) (hB:B' = B * 4294967296) (h:o+B * c = f * p+G) (ht:t = c+s * f) (e:t = 4294967296 * q+r):(o+B * r)+B' * q = f * (p+B * s)+G:=by
 subst hB
 have e1:B * t = B * 4294967296 * q+B * r:=by rw [e,Nat.mul_add,Nat.mul_assoc]
 have e2:B * t = B * c+f * (B * s):=by rw [ht,Nat.mul_add]; congr 1; rw [Nat.mul_comm s f,Nat.mul_left_comm]
 rw [Nat.mul_add f]
 omega
theorem pg_carry {c f x q r:Nat} (hc:c < f) (hx:x < 4294967296) (e:c+x * f = 4294967296 * q+r):q < f:=by
 have h1:x * f≤4294967295 * f:=Nat.mul_le_mul_right _ (by omega)
 omega
theorem mul_hi9 {x f:Nat} (hx:x < 4294967296) (hf:f≤1000000000):(x:Int) * (f:Int)≤4294967295000000000:=by
 have:x * f≤4294967295 * 1000000000:=Nat.mul_le_mul (by omega) (by omega)
 rw [← Int.natCast_mul]; omega
theorem pow_nine {k:Nat} (h:k≤9):10 ^ k≤1000000000:=Nat.pow_le_pow_right (show 0 < 10 by decide) (show k≤9 by omega)
theorem dig_take {ds:List Nat} (h:Pl.Dig ds) (k:Nat):Pl.Dig (ds.take k):=fun d hd=>h d (List.mem_of_mem_take hd)
def PutTo (base n:Nat) (xs ds:List Nat) (w:World) (e:Ending) (w':World):Prop:=
 ∃ g' n' c' ys,e = .returned (.slice (some ⟨g',0,none⟩) n' c')∧base≤g'∧Room w' g' ys c'∧ys.length = n'∧n'≤n+1∧Pl.Wf ys∧Pl.val ys = Pl.val xs * 10 ^ ds.length+Pl.dval ds 0∧Below base w w'
theorem putGroup_any (base g n c q:Nat) (s:ByteArray) (xs ds:List Nat) (w:World) (hq:Hid (s.size = q)) (hq9:q≤9) (hS:Hid (DigS s ds)) (hn:Hid (xs.length = n)) (hlen:n≤20000) (hx:Pl.Wf xs) (hbg:base≤g) (hbw:base≤w.heap.size) (hR:Room w g xs c) :
  Calls Tryz.prog 55 #[.slice (some ⟨g,0,none⟩) n c,.string s] w (PutTo base n xs ds w):=by
 obtain ⟨i0,hi,hz0,hz1,hz2⟩:=info_parts Tryz.info_limb
 have hsz:s.size≤9:=by rw [unhide hq]; exact hq9
 go_enter Tryz.func55,Tryz.ntmps55
 go_wp2
 go_loopw [5,6,12] (fun t f i wr=>∃ (k v p:Nat),k≤s.size∧i = .int .i64 k∧t = .int .u64 (v:Int)∧f = .int .u64 (p:Int)∧p = 10 ^ k∧v = Pl.dval (ds.take k) 0∧w = wr) (fun _ _ i _=>s.size - (intOf i).toNat)
 case atStart=>exact ⟨0,0,1,Nat.zero_le _,rfl,rfl,rfl,rfl,rfl,rfl⟩
 case round=>
  obtain ⟨k,v,p,hk,rfl,rfl,rfl,hp,hv,rfl⟩:=hrel
  obtain ⟨hs1,hs2,hs3⟩:=unhide hS
  have hp9:p≤1000000000:=by rw [hp]; exact pow_nine (by omega)
  have hvp:v < p:=by
   have:=Pl.dval_lt (dig_take hs2 k)
   rw [List.length_take,Nat.min_eq_left (by omega),← hv,← hp] at this
   exact this
  by_cases hks:k < s.size
  ·obtain ⟨x,hxx⟩:∃ x,x = ds[k]?.getD 0:=⟨_,rfl⟩
   have hx10:x < 10:=by
    rw [hxx,List.getElem?_eq_getElem (by omega)]
    exact hs2 _ (List.getElem_mem _)
   have hsx:(s[k]'hks).toNat = 48+x:=by rw [hxx]; exact hs3 k hks
   have hp8:p≤100000000:=by rw [hp]; exact Nat.pow_le_pow_right (show 0 < 10 by decide) (show k≤8 by omega)
   have HV:Hid (v * 10+x = Pl.dval (ds.take (k+1)) 0):=hide (by rw [dval_snoc ds k (by omega),← hv,← hxx])
   have HP:Hid (p * 10 = 10 ^ (k+1)):=hide (by rw [hp,Nat.pow_succ])
   clear hp hv hxx hs1 hs2 hs3
   go_wp2
   go_roundw
   case rel=>
    exact ⟨k+1,v * 10+x,p * 10,by omega,by go_num,by go_num,by go_num,unhide HP,(unhide HV),trivial⟩
   case measure=>simp [intOf]; omega
  ·have hke:k = s.size:=by omega
   have HP:Hid (p = 10 ^ ds.length):=hide (by rw [hp,hke,hs1])
   have HV:Hid (v = Pl.dval ds 0):=hide (by rw [hv,List.take_of_length_le (by omega)])
   clear hp hv hs1 hs2 hs3
   go_wp2
   go_loopw [5,28] (fun t i wr=>∃ (j cc:Nat) (out:List Nat),j≤n∧i = .int .i64 (j:Int)∧t = .int .u64 (cc:Int)∧cc < p∧out.length = j∧Pl.Wf out∧Pl.val out+4294967296 ^ j * cc = p * Pl.val (xs.take j)+v ∧
     Room wr g (out ++ xs.drop j) c∧Below base w wr) (fun _ i _=>n - (intOf i).toNat)
   case atStart=>exact ⟨0,v,[],Nat.zero_le _,rfl,rfl,hvp,rfl,Pl.wf_nil,by simp [Pl.val],by simpa using hR,Below.refl _ _⟩
   case round=>
    obtain ⟨j,cc,out,hj,rfl,rfl,hcc,hol,how,hval,hRR,hbel⟩:=hrel
    have hnl:=unhide hn
    have HVal:=hide hval
    clear hval
    by_cases hjn:j < n
    ·obtain ⟨x,hxx⟩:∃ x,x = xs[j]?.getD 0:=⟨_,rfl⟩
     have hx1:x < 4294967296:=by rw [hxx]; exact Pl.wf_at hx j
     have hat:=at_mid [] out xs [] j hol (by omega)
     simp only [List.nil_append,List.append_nil,List.length_nil,Nat.zero_add] at hat
     have hcx:wr.cell? ⟨g,j,none⟩ = some (.int .u32 (x:Int)):=by rw [hRR.row.cell j (by simp; omega),hat,hxx]
     have hfz:wr.frozen? ⟨g,j,none⟩ = false:=hRR.row.frozen j
     obtain ⟨t,ht⟩:∃ t,t = cc+x * p:=⟨_,rfl⟩
     have hm0:=mul_lo x p
     have hm1:=mul_hi9 hx1 hp9
     have hti:(cc:Int)+(x:Int) * (p:Int) = (t:Int):=by rw [ht,Int.natCast_add,Int.natCast_mul]
     have ht1:t < 18446744073709551616:=by omega
     have hqc:t / 4294967296 < p:=pg_carry hcc hx1 (by rw [← ht]; exact (Nat.div_add_mod t 4294967296).symm)
     have HV2:Hid (Pl.val (out ++ [t % 4294967296])+4294967296 ^ (j+1) * (t / 4294967296) = p * Pl.val (xs.take (j+1))+v):=by
      rw [Pl.val_append,Pl.val_one,hol,Pl.val_take_any xs j,← hxx]
      exact pg_step _ (Nat.pow_succ ..) (unhide HVal) ht (Nat.div_add_mod t 4294967296).symm
     have hset:=hRR.set j (t % 4294967296) (by simp; omega)
     have es:=set_mid [] out xs [] j (t % 4294967296) hol (by omega)
     simp only [List.nil_append,List.append_nil,List.length_nil,Nat.zero_add] at es
     rw [es] at hset
     have HSet:=hide hset
     clear hset es hat hxx hRR ht hnl
     go_wp2
     go_roundw
     case rel=>
      have e1:(t:Int) / 4294967296 = ((t / 4294967296:Nat):Int):=by omega
      have e2:(t:Int) % 4294967296 = ((t % 4294967296:Nat):Int):=by omega
      rw [e1,e2]
      exact ⟨j+1,t / 4294967296,out ++ [t % 4294967296],by omega,by go_num,rfl,hqc,by simp [hol],Pl.wf_append how (Pl.wf_one (by omega)),unhide HV2,unhide HSet,hbel.setCell hbg _⟩
     case measure=>simp [intOf]; omega
    ·have hje:j = n:=by omega
     subst hje
     have hxt:xs.take j = xs:=List.take_of_length_le (by omega)
     have hxd:xs.drop j = []:=List.drop_eq_nil_of_le (by omega)
     rw [hxd,List.append_nil] at hRR
     have HV2:Hid (Pl.val out+4294967296 ^ j * cc = Pl.val xs * 10 ^ ds.length+Pl.dval ds 0):=hide (by
      have:=unhide HVal
      rw [hxt,unhide HP,unhide HV,Nat.mul_comm (10 ^ ds.length)] at this
      exact this)
     clear HVal hxt hxd hnl
     by_cases hc0:cc = 0
     ·subst hc0
      go_wp2
      go_ret
      exact ⟨g,j,c,out,rfl,hbg,hRR,hol,by omega,how,by have:=unhide HV2; rw [Nat.mul_zero,Nat.add_zero] at this; exact this,hbel⟩
     ·have hcb:((cc:Int) == 0) = false:=by simp; omega
      have hown:=hRR.owns hbg
      rw [hol] at hown
      have hbs:base≤wr.heap.size:=Nat.le_trans hbw hbel.size
      have hcc32:cc < 4294967296:=by omega
      clear hc0
      go_wp2_with (at_builtin; refine wpList_append_own _ rfl (.tmp 50) (.tmp 53) 22 rfl base 40 i0 (.int .u32 0) 1 4 Tryz.under_limbs hi hz0 hz1 hz2 rfl (by decide) _ j _ rfl (hown.alloc _) ⟨wr.heap.size,0,none⟩ 1 1 [.int .u32 (cc:Int)] rfl rfl (cell_one_new _ _ _) (fun x hx=>by simp at hx; subst hx; rfl) (by unfold maxLen; omega) (by omega) (by simp; omega) ?_)
      intro v' w1 hown1 hgrow hnil
      have e1:out.map (fun z:Nat=>Value.int .u32 (z:Int)) ++ [Value.int .u32 (cc:Int)] = (out ++ [cc]).map (fun z:Nat=>Value.int .u32 (z:Int)):=by simp
      rw [e1] at hown1
      obtain ⟨g',c',hv',hg',hroom⟩:=room_of (by simp [hol]) (by omega) hown1
      have hbl:Below base w w1:=(hbel.alloc hbs _).grown hgrow (by simp; omega) (fun q hq=>by simp [Value.ownBlock] at hq; omega)
      rw [hv']
      have HV3:Hid (Pl.val (out ++ [cc]) = Pl.val xs * 10 ^ ds.length+Pl.dval ds 0):=hide (by rw [Pl.val_append,Pl.val_one,hol]; exact unhide HV2)
      clear hown1 hgrow hnil hv' HV2 e1
      go_wp2
      go_ret
      exact ⟨g',j+1,c',out ++ [cc],rfl,hg',hroom,by simp [hol],Nat.le_refl _,Pl.wf_append how (Pl.wf_one hcc32),unhide HV3,hbl⟩
end Go.Proofs.YtfhmbnnlcjdblaaGreat
