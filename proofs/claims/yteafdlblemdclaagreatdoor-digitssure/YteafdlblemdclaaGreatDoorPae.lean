/- Of what DigitsSureRow stands on: Parse DcDig. -/
import Derived.Test.YteafdlblemdclaaGreatDoorPad
import Derived.Deep.LoopGhost
namespace Go.Proofs.YteafdlblemdclaaGreatDoor
open Go.RowKit
set_option maxHeartbeats 2000000
def digs (s:ByteArray):List Nat:=s.data.toList.map (fun b=>b.toNat - 48)
def AllD (s:ByteArray) (k:Nat):Prop:=∀ (j:Nat) (h:j < s.size),j < k→48≤(s[j]'h).toNat∧(s[j]'h).toNat≤57
theorem AllD.digS {s:ByteArray} (h:AllD s s.size):DigS s (digs s):=by
 have hl:(digs s).length = s.size:=by simp [digs]
 have hat:∀ (k:Nat) (hk:k < s.size),(digs s)[k]?.getD 0 = (s[k]'hk).toNat - 48:=by
  intro k hk
  have hk2:k < s.data.toList.length:=by simpa using hk
  simp only [digs,List.getElem?_map,List.getElem?_eq_getElem hk2]
  simp
  rfl
 refine ⟨hl.symm,?_,?_⟩
 ·intro d hd
  obtain ⟨k,hk,rfl⟩:=List.getElem_of_mem hd
  have h1:=h k (by omega) (by omega)
  have h2:=hat k (by omega)
  rw [List.getElem?_eq_getElem hk] at h2
  simp only [Option.getD_some] at h2
  omega
 ·intro k hk
  have h1:=h k hk hk
  rw [hat k hk]
  omega
theorem DigS.cut {s:ByteArray} {ds:List Nat} (h:DigS s ds) (a b:Nat) (hab:a≤b) (hb:b≤s.size):DigS (s.extract a b) ((ds.drop a).take (b - a)):=by
 obtain ⟨h1,h2,h3⟩:=h
 have hsz:(s.extract a b).size = b - a:=by rw [ByteArray.size_extract]; omega
 refine ⟨?_,?_,?_⟩
 ·rw [hsz,List.length_take,List.length_drop]; omega
 ·intro d hd; exact h2 d (List.mem_of_mem_drop (List.mem_of_mem_take hd))
 ·intro k hk
  rw [hsz] at hk
  rw [ByteArray.getElem_extract,h3,List.getElem?_take,if_pos hk,List.getElem?_drop]
def ParseAns (s:ByteArray) (base:Nat) (e:Ending) (w':World):Prop:=
 (65536 < s.size∧e = .returned (.tuple #[.agg #[.slice none 0 0],.int .i64 0,.int .i64 3])) ∨
 (s.size = 0∧e = .returned (.tuple #[.agg #[.slice none 0 0],.int .i64 0,.int .i64 12])) ∨
 (∃ (i:Nat) (h:i < s.size),s.size≤65536∧AllD s i∧¬ (48≤(s[i]'h).toNat∧(s[i]'h).toNat≤57)∧e = .returned (.tuple #[.agg #[.slice none 0 0],.int .i64 (i:Int),.int .i64 12])) ∨
 (∃ a n c,0 < s.size∧s.size≤65536∧AllD s s.size∧e = .returned (.tuple #[.agg #[.slice a n c],.int .i64 0,.int .i64 0])∧Mine w' base a n c (Pl.dval (digs s) 0))
theorem Box.under {w w':World} {p B:Nat} {v:Value} (h:Box w p v) (hb:Below B w w') (hp:p < B):Box w' p v:=by
 unfold Box; rw [hb.block p hp]; exact h
theorem make_room (C:Int) (n:Nat) (hC:C = (n:Int)) (hn:n≤1073741824) (w:World) :
  (Instr.makeSlice 26 (.int .i64 0) (.int .i64 C)).run Tryz.prog w = .ok (.slice (some ⟨w.heap.size,0,none⟩) 0 n) (w.alloc (.cells (lc (List.replicate n 0)) 83)):=by
 obtain ⟨i,hi,hz,hs,hb⟩:=info_parts Tryz.info_limb
 have:=run_make (P:=Tryz.prog) w 26 83 i (.int .u32 0) Tryz.under_limbs hi hz .i64 .i64 0 C (by omega) (by omega) (by rw [hb]; omega) (by omega)
 rw [this,hC,hs]
 simp only [Int.toNat_natCast,Nat.mul_one,Value.cells,made_lc]
 rfl
theorem parse_long (s:ByteArray) (w:World) (h:65536 < s.size) (hm:s.size≤9223372036854775807) :
  Calls Tryz.prog 70 #[.string s] w fun e w'=>ParseAns s w.heap.size e w'∧Below w.heap.size w w':=by
 have hi:(65536:Int) < (s.size:Int):=by omega
 have H:=hide h
 clear h
 go_enter Tryz.func70,Tryz.ntmps70
 go_wp2
 exact bodyPost_ret (v:=.tuple #[.agg #[.slice none 0 0],.int .i64 0,.int .i64 3]) (by simp [results,Tryz.results70,go_sem]) rfl ⟨Or.inl ⟨unhide H,rfl⟩,gr_alloc _ _⟩
theorem parse_none (s:ByteArray) (w:World) (h:s.size = 0) :
  Calls Tryz.prog 70 #[.string s] w fun e w'=>ParseAns s w.heap.size e w'∧Below w.heap.size w w':=by
 have H:=hide h
 go_enter Tryz.func70,Tryz.ntmps70
 go_wp2
 exact bodyPost_ret (v:=.tuple #[.agg #[.slice none 0 0],.int .i64 0,.int .i64 12]) (by simp [results,Tryz.results70,go_sem]) rfl ⟨Or.inr (Or.inl ⟨unhide H,rfl⟩),gr_alloc _ _⟩
def PInv (s:ByteArray) (base:Nat) (w1:World) (g:Nat) (v0 v6:Value) (wr:World):Prop:=
 ∃ (r:ByteArray) (k b n c:Nat) (ys:List Nat),v0 = .string r∧r.size = g∧k+g = s.size∧DigS r ((digs s).drop k)∧v6 = .slice (some ⟨b,0,none⟩) n c∧base≤b∧Room wr b ys c∧ys.length = n∧Pl.Wf ys ∧
  ((k = 0∧n = 0)∨(g % 9 = 0∧9 * n+g≤s.size+8))∧Pl.val ys = Pl.dval ((digs s).take k) 0∧Below base w1 wr
theorem parse_in (s:ByteArray) (w:World) (h0:0 < s.size) (hmx:s.size≤65536) :
  Calls Tryz.prog 70 #[.string s] w fun e w'=>ParseAns s w.heap.size e w'∧Below w.heap.size w w':=by
 have hmk:=make_room ((s.size:Int) / 9+1) (s.size / 9+1) (by omega) (by omega)
 have h0i:((s.size:Int) == 0) = false:=by rw [beq_eq_false_iff_ne]; omega
 go_enter Tryz.func70,Tryz.ntmps70
 go_wp2
 go_loopw [18] (fun i wr=>∃ k:Nat,k≤s.size∧i = .int .i64 (k:Int)∧Hid (AllD s k)∧w.alloc (.cells #[.slice none 0 0] 28) = wr) (fun i _=>s.size - (intOf i).toNat)
 case atStart=>exact ⟨0,Nat.zero_le _,rfl,hide (fun j _ hj=>absurd hj (Nat.not_lt_zero _)),rfl⟩
 case round=>
  obtain ⟨k,hk,rfl,HA,rfl⟩:=hrel
  by_cases hks:k < s.size
  ·obtain ⟨x,hx⟩:∃ x,x = (s[k]'hks).toNat:=⟨_,rfl⟩
   have hx1:x < 256:=by rw [hx]; exact (s[k]'hks).toNat_lt
   have hsx:(s[k]'hks).toNat = x:=hx.symm
   have HX:=hide hx
   clear hx
   by_cases hb:48≤x∧x≤57
   ·obtain ⟨hb1,hb2⟩:=hb
    have hb1i:(48:Int)≤(x:Int):=by omega
    have hb2i:(x:Int)≤57:=by omega
    have HN:Hid (AllD s (k+1)):=hide (fun j hj hjk=>by
     by_cases hjk2:j < k
     ·exact unhide HA j hj hjk2
     ·have:j = k:=by omega
      subst this
      rw [hsx]
      exact ⟨hb1,hb2⟩)
    go_wp2
    go_roundw
    case rel=>exact ⟨k+1,by omega,by go_num,unhide HN,trivial⟩
    case measure=>simp [intOf]; omega
   ·have HBad:Hid (¬ (48≤(s[k]'hks).toNat∧(s[k]'hks).toNat≤57)):=hide (by rw [hsx]; exact hb)
    by_cases hb1:x < 48
    ·have hb1i:(x:Int) < 48:=by omega
     clear hb
     go_wp2
     exact bodyPost_ret (v:=.tuple #[.agg #[.slice none 0 0],.int .i64 (k:Int),.int .i64 12]) (by simp [results,Tryz.results70,go_sem]) rfl ⟨Or.inr (Or.inr (Or.inl ⟨k,hks,hmx,unhide HA,unhide HBad,rfl⟩)),gr_alloc _ _⟩
    ·have hb1i:(48:Int)≤(x:Int):=by omega
     have hb2i:(57:Int) < (x:Int):=by omega
     clear hb hb1
     go_wp2
     exact bodyPost_ret (v:=.tuple #[.agg #[.slice none 0 0],.int .i64 (k:Int),.int .i64 12]) (by simp [results,Tryz.results70,go_sem]) rfl ⟨Or.inr (Or.inr (Or.inl ⟨k,hks,hmx,unhide HA,unhide HBad,rfl⟩)),gr_alloc _ _⟩
  ·have hke:k = s.size:=by omega
   subst hke
   have hDS:=(unhide HA).digS
   have HDS:=hide hDS
   clear hDS
   go_wp2
   clear hmk
   go_loopg [0,6] s.size (fun g s0 s6 wr=>PInv s (w.heap.size+1) (w.alloc (.cells #[.slice none 0 0] 28)) g s0 s6 wr)
   case atStart=>
    refine ⟨s,0,w.heap.size+1,0,s.size / 9+1,[],rfl,rfl,by omega,by simpa using unhide HDS,by simp,Nat.le_refl _,?_,rfl,Pl.wf_nil,Or.inl ⟨rfl,rfl⟩,rfl,?_⟩
    ·have:=Room.made (w.alloc (.cells #[.slice none 0 0] 28)) (s.size / 9+1) (by omega)
     simpa using this
    ·exact (Below.refl _ _).alloc (by simp) _
   case round=>
    obtain ⟨r,k,b,n,c,ys,rfl,hrg,hkg,hD,rfl,hbb,hroom,hyl,hyw,hcnt,hval,hbel⟩:=hrel
    by_cases hg0:gk = 0
    ·subst hg0
     have hk2:k = s.size:=by omega
     have hdl:(digs s).length = s.size:=(unhide HDS).1.symm
     have hv:Pl.val ys = Pl.dval (digs s) 0:=by rw [hval,List.take_of_length_le (by omega)]
     have hl:=hroom.len
     have hn7:n≤16384:=by omega
     have hby:=(Box.made w (.slice none 0 0)).under hbel (Nat.lt_succ_self _)
     have HV:=hide hv
     clear hval hv hcnt hdl hD hk2
     go_wp2_with fail
     refine (trim_at b 0 n c ys wr hyl (by omega) hl.2 (fun j hj=>by rw [Nat.zero_add]; exact hroom.row.cell j hj)).mono ?_
     rintro e w1 ⟨rfl,l,hl1,z0,z1,rfl⟩
     have HT:=hide (trim_row hroom.row (Nat.le_trans (Nat.le_succ _) hbb) (by omega) hyw hl1 z0 z1)
     have hcx:=hby.cell
     have hfx:=hby.frozen
     have HL:=hide (show l≤16384 by omega)
     have HB:Hid (Below w.heap.size w wr):=hide ((gr_alloc w _).trans (hbel.mono (Nat.le_succ _)))
     clear z0 z1 hl1
     go_wp2
     obtain ⟨t1,t2,t3,t4,t5⟩:=unhide HT
     exact bodyPost_ret (v:=.tuple #[.agg #[.slice (some ⟨b,0,none⟩) l l],.int .i64 0,.int .i64 0]) (by simp [results,Tryz.results70,go_sem,hcx]) rfl
      ⟨Or.inr (Or.inr (Or.inr ⟨_,l,l,h0,hmx,unhide HA,rfl,ys.take l,t1,t2.setBox hby _,t3,t4,t5.trans (unhide HV),unhide HL⟩)),(unhide HB).setCell (Nat.le_refl _) _⟩
    ·obtain ⟨j,rfl⟩:∃ j,gk = j+1:=⟨gk - 1,by omega⟩
     obtain ⟨q,hq⟩:∃ q,q = j % 9:=⟨_,rfl⟩
     have hqI:(j:Int) % 9 = (q:Int):=by omega
     have hjb:j≤65535:=by omega
     have hq8:q≤8:=by omega
     have hqg:q≤j:=by omega
     have hn7:n≤7300:=by omega
     have hdl:(digs s).length = s.size:=(unhide HDS).1.symm
     have hD1:=hD.cut 0 (q+1) (by omega) (by omega)
     have hD2:=hD.cut (q+1) r.size (by omega) (Nat.le_refl _)
     rw [List.drop_zero,Nat.sub_zero] at hD1
     rw [List.drop_drop,List.take_of_length_le (by rw [List.length_drop]; omega)] at hD2
     have hs1:(r.extract 0 (q+1)).size = q+1:=by rw [ByteArray.size_extract]; omega
     have hs2:(r.extract (q+1) r.size).size = j - q:=by rw [ByteArray.size_extract]; omega
     have HD2:=hide (And.intro hD2 hs2)
     have HG:=hide (putGroup_any (w.heap.size+1) b n c (q+1) (r.extract 0 (q+1)) ys _ wr (hide hs1) (by omega) (hide hD1) (hide hyl) (by omega) hyw hbb (Nat.le_trans (by simp) hbel.size) hroom)
     have HQ:=hide (And.intro hq (And.intro hcnt (And.intro hval hkg)))
     clear hD1 hD2 hs1 hs2 hD hroom hval hcnt hkg hq hg0
     go_wp2_with fail
     refine (unhide HG).mono ?_
     rintro e w2 ⟨g',n',c',ys',rfl,hg',hroom',hyl',hn',hyw',hval',hbel'⟩
     have HI:Hid (PInv s (w.heap.size+1) (w.alloc (.cells #[.slice none 0 0] 28)) (j - q) (.string (r.extract (q+1) r.size)) (.slice (some ⟨g',0,none⟩) n' c') w2):=by
      obtain ⟨hq,hcnt,hval,hkg⟩:=unhide HQ
      obtain ⟨hd,hsz⟩:=unhide HD2
      refine hide ⟨_,k+(q+1),g',n',c',ys',rfl,hsz,by omega,hd,rfl,hg',hroom',hyl',hyw',Or.inr ⟨by omega,?_⟩,?_,hbel.trans hbel'⟩
      ·rcases hcnt with h|h
       ·omega
       ·omega
      ·rw [hval',hval,List.length_take,List.length_drop,Nat.min_eq_left (by omega)]
       have e1:(digs s).take (k+(q+1)) = (digs s).take k ++ ((digs s).drop k).take (q+1):=by rw [List.take_add]
       rw [e1,dval_append,List.length_take,List.length_drop,Nat.min_eq_left (by omega)]
     clear HG hroom' hval' hbel' HQ HD2 hbel
     rw [hrg] at HI
     go_wp2
     go_roundg (j - q)
     case measure=>omega
     case rel=>exact unhide HI
theorem parse_any (s:ByteArray) (w:World) (hm:s.size≤9223372036854775807) :
  Calls Tryz.prog 70 #[.string s] w fun e w'=>ParseAns s w.heap.size e w'∧Below w.heap.size w w':=by
 by_cases h0:s.size = 0
 ·exact parse_none s w h0
 ·by_cases hl:s.size≤65536
  ·exact parse_in s w (by omega) hl
  ·exact parse_long s w (by omega) hm
def DigB (s:ByteArray) (e:Ending):Prop:=(e = .returned (.bool true)∧AllD s s.size)∨(e = .returned (.bool false)∧¬ AllD s s.size)
theorem allDigits_any (s:ByteArray) (w:World) (hmx:s.size≤65536) :
  Calls Tryz.prog 41 #[.string s] w fun e w'=>DigB s e∧Below w.heap.size w w':=by
 go_enter Tryz.func41,Tryz.ntmps41
 go_wp2
 go_loopw [6] (fun i wr=>∃ k:Nat,k≤s.size∧i = .int .i64 (k:Int)∧Hid (AllD s k)∧w = wr) (fun i _=>s.size - (intOf i).toNat)
 case atStart=>exact ⟨0,Nat.zero_le _,rfl,hide (fun j _ hj=>absurd hj (Nat.not_lt_zero _)),rfl⟩
 case round=>
  obtain ⟨k,hk,rfl,HA,rfl⟩:=hrel
  by_cases hks:k < s.size
  ·obtain ⟨x,hx⟩:∃ x,x = (s[k]'hks).toNat:=⟨_,rfl⟩
   have hx1:x < 256:=by rw [hx]; exact (s[k]'hks).toNat_lt
   have hsx:(s[k]'hks).toNat = x:=hx.symm
   have HX:=hide hx
   clear hx
   by_cases hb:48≤x∧x≤57
   ·obtain ⟨hb1,hb2⟩:=hb
    have hb1i:(48:Int)≤(x:Int):=by omega
    have hb2i:(x:Int)≤57:=by omega
    have HN:Hid (AllD s (k+1)):=hide (fun j hj hjk=>by
     by_cases hjk2:j < k
     ·exact unhide HA j hj hjk2
     ·have:j = k:=by omega
      subst this
      rw [hsx]
      exact ⟨hb1,hb2⟩)
    go_wp2
    go_roundw
    case rel=>exact ⟨k+1,by omega,by go_num,unhide HN,trivial⟩
    case measure=>simp [intOf]; omega
   ·have HBad:Hid (¬ AllD s s.size):=hide (fun h=>hb (by have:=h k hks hks; rw [hsx] at this; exact this))
    by_cases hb1:x < 48
    ·have hb1i:(x:Int) < 48:=by omega
     clear hb
     go_wp2
     go_ret
     exact ⟨Or.inr ⟨rfl,unhide HBad⟩,Below.refl _ _⟩
    ·have hb1i:(48:Int)≤(x:Int):=by omega
     have hb2i:(57:Int) < (x:Int):=by omega
     clear hb hb1
     go_wp2
     go_ret
     exact ⟨Or.inr ⟨rfl,unhide HBad⟩,Below.refl _ _⟩
  ·have hke:k = s.size:=by omega
   subst hke
   go_wp2
   go_ret
   exact ⟨Or.inl ⟨rfl,unhide HA⟩,Below.refl _ _⟩
structure Ends (s:ByteArray) (f t:Nat):Prop where
 le:f≤t
 hi:t≤s.size
 lo:∀ (j:Nat) (h:j < s.size),j < f→(s[j]'h).toNat = 48
 up:∀ (j:Nat) (h:j < s.size),t≤j→(s[j]'h).toNat = 48
 one:∀ (_:f < t) (h':f < s.size),(s[f]'h').toNat≠48
 two:∀ (_:f < t) (h':t - 1 < s.size),(s[t - 1]'h').toNat≠48
theorem Ends.uniq {s:ByteArray} {f t f' t':Nat} (h:Ends s f t) (h':Ends s f' t') (hl:f < t):f = f'∧t = t':=by
 have l1:=h.hi; have l2:=h'.hi; have l3:=h'.le
 have a1:f'≤f:=Nat.le_of_not_lt fun hc=>h.one hl (by omega) (h'.lo f (by omega) hc)
 have a2:t≤t':=Nat.le_of_not_lt fun hc=>h.two hl (by omega) (h'.up (t - 1) (by omega) (by omega))
 have hl':f' < t':=by omega
 have a3:f≤f':=Nat.le_of_not_lt fun hc=>h'.one hl' (by omega) (h.lo f' (by omega) hc)
 have a4:t'≤t:=Nat.le_of_not_lt fun hc=>h'.two hl' (by omega) (h.up (t' - 1) (by omega) (by omega))
 omega
theorem ends_any (s:ByteArray) (w:World) (hmx:s.size≤65536) :
  Calls Tryz.prog 40 #[.string s] w fun e w'=>(∃ f t:Nat,e = .returned (.tuple #[.int .i64 (f:Int),.int .i64 (t:Int)])∧Ends s f t∧(f < t∨(f = 0∧t = 0)))∧Below w.heap.size w w':=by
 go_enter Tryz.func40,Tryz.ntmps40
 go_wp2
 go_loopw [3] (fun i wr=>∃ t:Nat,t≤s.size∧i = .int .i64 (t:Int)∧Hid (∀ (j:Nat) (h:j < s.size),t≤j→(s[j]'h).toNat = 48)∧w = wr) (fun i _=>(intOf i).toNat)
 case atStart=>exact ⟨s.size,Nat.le_refl _,rfl,hide (fun j h hj=>absurd hj (by omega)),rfl⟩
 case round=>
  obtain ⟨t,ht,rfl,HU,rfl⟩:=hrel
  by_cases ht0:0 < t
  ·have hts:t - 1 < s.size:=by omega
   obtain ⟨x,hx⟩:∃ x,x = (s[t - 1]'hts).toNat:=⟨_,rfl⟩
   have hx1:x < 256:=by rw [hx]; exact (s[t - 1]'hts).toNat_lt
   have hsx:(s[t - 1]'hts).toNat = x:=hx.symm
   have HX:=hide hx
   clear hx
   obtain ⟨q,hq⟩:∃ q:Nat,t = q+1:=⟨t - 1,by omega⟩
   subst hq
   have hsx2:(s[q]'(by omega)).toNat = x:=hsx
   clear hsx
   have hqi:(q:Int)+1 - 1 = (q:Int):=by omega
   by_cases hb:x = 48
   ·subst hb
    have HN:Hid (∀ (j:Nat) (h:j < s.size),q≤j→(s[j]'h).toNat = 48):=hide (fun j hj hjk=>by
     by_cases hjk2:q+1≤j
     ·exact unhide HU j hj hjk2
     ·have:j = q:=by omega
      subst this
      exact hsx2)
    go_wp2
    go_roundw
    case rel=>exact ⟨q,by omega,by go_num,unhide HN,trivial⟩
    case measure=>simp [intOf]
   ·have hbi:((x:Int) == 48) = false:=by rw [beq_eq_false_iff_ne]; omega
    have HT:Hid (∀ (_:0 < q+1) (h':q+1 - 1 < s.size),(s[q+1 - 1]'h').toNat≠48):=hide (fun _ _=>by show (s[q]'_).toNat≠48; rw [hsx2]; exact hb)
    clear hb
    go_wp2
    go_loopw [2] (fun i wr=>∃ f:Nat,f≤q+1∧i = .int .i64 (f:Int)∧Hid (∀ (j:Nat) (h:j < s.size),j < f→(s[j]'h).toNat = 48)∧w = wr) (fun i _=>q+1 - (intOf i).toNat)
    case atStart=>exact ⟨0,Nat.zero_le _,rfl,hide (fun j h hj=>absurd hj (Nat.not_lt_zero _)),rfl⟩
    case round=>
     obtain ⟨f,hf,rfl,HL,rfl⟩:=hrel
     by_cases hft:f < q+1
     ·have hfs:f < s.size:=by omega
      obtain ⟨y,hy⟩:∃ y,y = (s[f]'hfs).toNat:=⟨_,rfl⟩
      have hy1:y < 256:=by rw [hy]; exact (s[f]'hfs).toNat_lt
      have hsy:(s[f]'hfs).toNat = y:=hy.symm
      have HY:=hide hy
      clear hy
      have hfti:(f:Int) < ((q:Int)+1):=by omega
      by_cases hb:y = 48
      ·subst hb
       have HN:Hid (∀ (j:Nat) (h:j < s.size),j < f+1→(s[j]'h).toNat = 48):=hide (fun j hj hjk=>by
        by_cases hjk2:j < f
        ·exact unhide HL j hj hjk2
        ·have:j = f:=by omega
         subst this
         exact hsy)
       go_wp2
       go_roundw
       case rel=>exact ⟨f+1,by omega,by go_num,unhide HN,trivial⟩
       case measure=>simp [intOf]; omega
      ·have hbi:((y:Int) == 48) = false:=by rw [beq_eq_false_iff_ne]; omega
       have HE:Hid (Ends s f (q+1)):=hide ⟨hf,ht,unhide HL,unhide HU,fun _ _=>by rw [hsy]; exact hb,fun h h'=>unhide HT (by omega) h'⟩
       clear hb
       go_wp2
       go_ret2
       exact ⟨⟨f,q+1,rfl,unhide HE,Or.inl (by omega)⟩,Below.refl _ _⟩
     ·exact absurd (unhide HL q (by omega) (by omega)) (unhide HT (by omega) (by omega))
  ·obtain rfl:t = 0:=by omega
   have HT:Hid (∀ (_:0 < 0) (h':0 - 1 < s.size),(s[0 - 1]'h').toNat≠48):=hide (fun h=>absurd h (by omega))
   clear ht0
   go_wp2
   go_loopw [2] (fun i wr=>∃ f:Nat,f≤0∧i = .int .i64 (f:Int)∧Hid (∀ (j:Nat) (h:j < s.size),j < f→(s[j]'h).toNat = 48)∧w = wr) (fun i _=>0 - (intOf i).toNat)
   case atStart=>exact ⟨0,Nat.zero_le _,rfl,hide (fun j h hj=>absurd hj (Nat.not_lt_zero _)),rfl⟩
   case round=>
    obtain ⟨f,hf,rfl,HL,rfl⟩:=hrel
    by_cases hft:f < 0
    ·have hfs:f < s.size:=by omega
     obtain ⟨y,hy⟩:∃ y,y = (s[f]'hfs).toNat:=⟨_,rfl⟩
     have hy1:y < 256:=by rw [hy]; exact (s[f]'hfs).toNat_lt
     have hsy:(s[f]'hfs).toNat = y:=hy.symm
     have HY:=hide hy
     clear hy
     have hfti:(f:Int) < (0:Int):=by omega
     by_cases hb:y = 48
     ·subst hb
      have HN:Hid (∀ (j:Nat) (h:j < s.size),j < f+1→(s[j]'h).toNat = 48):=hide (fun j hj hjk=>by
       by_cases hjk2:j < f
       ·exact unhide HL j hj hjk2
       ·have:j = f:=by omega
        subst this
        exact hsy)
      go_wp2
      go_roundw
      case rel=>exact ⟨f+1,by omega,by go_num,unhide HN,trivial⟩
      case measure=>simp [intOf]; omega
     ·have hbi:((y:Int) == 48) = false:=by rw [beq_eq_false_iff_ne]; omega
      have HE:Hid (Ends s f 0):=hide ⟨hf,ht,unhide HL,unhide HU,fun _ _=>by rw [hsy]; exact hb,fun h h'=>unhide HT (by omega) h'⟩
      clear hb
      go_wp2
      go_ret2
      exact ⟨⟨f,0,rfl,unhide HE,Or.inr ⟨by omega,rfl⟩⟩,Below.refl _ _⟩
    ·have HE:Hid (Ends s f 0):=hide ⟨hf,ht,unhide HL,unhide HU,fun h _=>absurd h hft,fun h _=>absurd h hft⟩
     have hfti:(0:Int)≤(f:Int):=by omega
     clear hft
     go_wp2
     go_ret2
     exact ⟨⟨f,0,rfl,unhide HE,Or.inr ⟨by omega,rfl⟩⟩,Below.refl _ _⟩
theorem Ends.none {s:ByteArray} {f:Nat} (h:Ends s f f) (j:Nat) (hj:j < s.size):(s[j]'hj).toNat = 48:=by
 rcases Nat.lt_or_ge j f with q|q
 ·exact h.lo j hj q
 ·exact h.up j hj q
theorem Ends.ex {s:ByteArray} (h:¬ ∀ (j:Nat) (hj:j < s.size),(s[j]'hj).toNat = 48):∃ f q,f≤q∧Ends s f (q+1):=by
 have first:∀ n:Nat,n≤s.size→(∀ (j:Nat) (hj:j < s.size),j < n→(s[j]'hj).toNat = 48)∨∃ (f:Nat) (hf:f < s.size),f < n∧(s[f]'hf).toNat≠48∧∀ (j:Nat) (hj:j < s.size),j < f→(s[j]'hj).toNat = 48:=by
  intro n
  induction n with
  | zero=>intro _; exact Or.inl fun j _ h=>absurd h (Nat.not_lt_zero _)
  | succ n ih=>
   intro hn
   rcases ih (by omega) with h1|⟨f,hf,h1,h2,h3⟩
   ·by_cases hz:(s[n]'(by omega)).toNat = 48
    ·refine Or.inl fun j hj hjn=>?_
     rcases Nat.lt_or_ge j n with q|q
     ·exact h1 j hj q
     ·obtain rfl:j = n:=by omega
      exact hz
    ·exact Or.inr ⟨n,by omega,by omega,hz,h1⟩
   ·exact Or.inr ⟨f,hf,by omega,h2,h3⟩
 have last:∀ n:Nat,n≤s.size→(∀ (j:Nat) (hj:j < s.size),j < n→(s[j]'hj).toNat = 48)∨∃ (q:Nat) (hq:q < s.size),q < n∧(s[q]'hq).toNat≠48∧∀ (j:Nat) (hj:j < s.size),q < j→j < n→(s[j]'hj).toNat = 48:=by
  intro n
  induction n with
  | zero=>intro _; exact Or.inl fun j _ h=>absurd h (Nat.not_lt_zero _)
  | succ n ih=>
   intro hn
   by_cases hz:(s[n]'(by omega)).toNat = 48
   ·have step:∀ (j:Nat) (hj:j < s.size),j < n+1→(j < n→(s[j]'hj).toNat = 48)→(s[j]'hj).toNat = 48:=fun j hj hjn h9=>by
     rcases Nat.lt_or_ge j n with q|q
     ·exact h9 q
     ·obtain rfl:j = n:=by omega
      exact hz
    rcases ih (by omega) with h1|⟨q,hq,h1,h2,h3⟩
    ·exact Or.inl fun j hj hjn=>step j hj hjn (h1 j hj)
    ·exact Or.inr ⟨q,hq,by omega,h2,fun j hj hqj hjn=>step j hj hjn (h3 j hj hqj)⟩
   ·exact Or.inr ⟨n,by omega,by omega,hz,fun j hj h1 h2=>absurd h2 (by omega)⟩
 rcases first s.size (Nat.le_refl _) with h1|⟨f,hf,_,h2,h3⟩
 ·exact absurd (fun j hj=>h1 j hj hj) h
 rcases last s.size (Nat.le_refl _) with h1|⟨q,hq,_,h4,h5⟩
 ·exact absurd (fun j hj=>h1 j hj hj) h
 have hfq:f≤q:=Nat.le_of_not_lt fun hc=>h4 (h3 q hq hc)
 exact ⟨f,q,hfq,⟨by omega,by omega,h3,fun j hj hjq=>h5 j hj (by omega) hj,fun _ _=>h2,fun _ _=>h4⟩⟩
end Go.Proofs.YteafdlblemdclaaGreatDoor
