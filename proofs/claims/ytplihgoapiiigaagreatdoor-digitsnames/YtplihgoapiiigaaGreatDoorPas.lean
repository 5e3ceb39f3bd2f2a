/- Of what DigitsNamesRow stands on: PutGroup Parse DcDig. -/
import Derived.Test.YtplihgoapiiigaaGreatDoorPai
import Derived.Test.YtplihgoapiiigaaGreatDoorPad
import Derived.Deep.LoopGhost
namespace Go.Proofs.YtplihgoapiiigaaGreatDoor
open Go.RowKit
set_option maxHeartbeats 2000000
def DigS (s:ByteArray) (ds:List Nat):Prop:=s.size = ds.length∧Pl.Dig ds∧∀ (k:Nat) (h:k < s.size),(s[k]'h).toNat = 48+ds[k]?.getD 0
theorem dval_snoc (ds:List Nat) (k:Nat) (h:k < ds.length):Pl.dval (ds.take (k+1)) 0 = Pl.dval (ds.take k) 0 * 10+ds[k]?.getD 0:=by
 rw [Pl.take_snoc ds k h,dval_append]
 simp [Pl.dval]
def digs (s:ByteArray):List Nat:=s.data.toList.map (fun b=>b.toNat - 48)
def AllD (s:ByteArray) (k:Nat):Prop:=∀ (j:Nat) (h:j < s.size),j < k→48≤(s[j]'h).toNat∧(s[j]'h).toNat≤57
theorem AllD.digS {s:ByteArray} (h:AllD s s.size):DigS s (digs s):=by
 have hl:(digs s).length = s.size:=by simp [digs]
 have hat:∀ (k:Nat) (hk:k < s.size),(digs s)[k]?.getD 0 = (s[k]'hk).toNat - 48:=by
  intro k hk
  have hk2:k < s.data.toList.length:=by simpa using hk
  simp only [digs,List.getElem?_map,List.getElem?_eq_getElem hk2]
  simp
  rfl
 refine ⟨hl.symm,?_,?_⟩
 ·intro d hd
  obtain ⟨k,hk,rfl⟩:=List.getElem_of_mem hd
  have h1:=h k (by omega) (by omega)
  have h2:=hat k (by omega)
  rw [List.getElem?_eq_getElem hk] at h2
  simp only [Option.getD_some] at h2
  omega
 ·intro k hk
  have h1:=h k hk hk
  rw [hat k hk]
  omega
theorem DigS.cut {s:ByteArray} {ds:List Nat} (h:DigS s ds) (a b:Nat) (hab:a≤b) (hb:b≤s.size):DigS (s.extract a b) ((ds.drop a).take (b - a)):=by
 obtain ⟨h1,h2,h3⟩:=h
 have hsz:(s.extract a b).size = b - a:=by rw [ByteArray.size_extract]; omega
 refine ⟨?_,?_,?_⟩
 ·rw [hsz,List.length_take,List.length_drop]; omega
 ·intro d hd; exact h2 d (List.mem_of_mem_drop (List.mem_of_mem_take hd))
 ·intro k hk
  rw [hsz] at hk
  rw [ByteArray.getElem_extract,h3,List.getElem?_take,if_pos hk,List.getElem?_drop]
def DigB (s:ByteArray) (e:Ending):Prop:=(e = .returned (.bool true)∧AllD s s.size)∨(e = .returned (.bool false)∧¬ AllD s s.size)
theorem allDigits_any (s:ByteArray) (w:World) (hmx:s.size≤65536) :
  Calls Tryz.prog 38 #[.string s] w fun e w'=>DigB s e∧Below w.heap.size w w':=by
 go_enter Tryz.func38,Tryz.ntmps38
 go_wp2
 go_loopw [6] (fun i wr=>∃ k:Nat,k≤s.size∧i = .int .i64 (k:Int)∧Hid (AllD s k)∧w = wr) (fun i _=>s.size - (intOf i).toNat)
 case atStart=>exact ⟨0,Nat.zero_le _,rfl,hide (fun j _ hj=>absurd hj (Nat.not_lt_zero _)),rfl⟩
 case round=>
  obtain ⟨k,hk,rfl,HA,rfl⟩:=hrel
  by_cases hks:k < s.size
  ·obtain ⟨x,hx⟩:∃ x,x = (s[k]'hks).toNat:=⟨_,rfl⟩
   have hx1:x < 256:=by rw [hx]; exact (s[k]'hks).toNat_lt
   have hsx:(s[k]'hks).toNat = x:=hx.symm
   have HX:=hide hx
   clear hx
   by_cases hb:48≤x∧x≤57
   ·obtain ⟨hb1,hb2⟩:=hb
    have hb1i:(48:Int)≤(x:Int):=by omega
    have hb2i:(x:Int)≤57:=by omega
    have HN:Hid (AllD s (k+1)):=hide (fun j hj hjk=>by
     by_cases hjk2:j < k
     ·exact unhide HA j hj hjk2
     ·have:j = k:=by omega
      subst this
      rw [hsx]
      exact ⟨hb1,hb2⟩)
    go_wp2
    go_roundw
    case rel=>exact ⟨k+1,by omega,by go_num,unhide HN,trivial⟩
    case measure=>simp [intOf]; omega
   ·have HBad:Hid (¬ AllD s s.size):=hide (fun h=>hb (by have:=h k hks hks; rw [hsx] at this; exact this))
    by_cases hb1:x < 48
    ·have hb1i:(x:Int) < 48:=by omega
     clear hb
     go_wp2
     go_ret
     exact ⟨Or.inr ⟨rfl,unhide HBad⟩,Below.refl _ _⟩
    ·have hb1i:(48:Int)≤(x:Int):=by omega
     have hb2i:(57:Int) < (x:Int):=by omega
     clear hb hb1
     go_wp2
     go_ret
     exact ⟨Or.inr ⟨rfl,unhide HBad⟩,Below.refl _ _⟩
  ·have hke:k = s.size:=by omega
   subst hke
   go_wp2
   go_ret
   exact ⟨Or.inl ⟨rfl,unhide HA⟩,Below.refl _ _⟩
structure Ends (s:ByteArray) (f t:Nat):Prop where
 le:f≤t
 hi:t≤s.size
 lo:∀ (j:Nat) (h:j < s.size),j < f→(s[j]'h).toNat = 48
 up:∀ (j:Nat) (h:j < s.size),t≤j→(s[j]'h).toNat = 48
 one:∀ (_:f < t) (h':f < s.size),(s[f]'h').toNat≠48
 two:∀ (_:f < t) (h':t - 1 < s.size),(s[t - 1]'h').toNat≠48
theorem Ends.uniq {s:ByteArray} {f t f' t':Nat} (h:Ends s f t) (h':Ends s f' t') (hl:f < t):f = f'∧t = t':=by
 have l1:=h.hi; have l2:=h'.hi; have l3:=h'.le
 have a1:f'≤f:=Nat.le_of_not_lt fun hc=>h.one hl (by omega) (h'.lo f (by omega) hc)
 have a2:t≤t':=Nat.le_of_not_lt fun hc=>h.two hl (by omega) (h'.up (t - 1) (by omega) (by omega))
 have hl':f' < t':=by omega
 have a3:f≤f':=Nat.le_of_not_lt fun hc=>h'.one hl' (by omega) (h.lo f' (by omega) hc)
 have a4:t'≤t:=Nat.le_of_not_lt fun hc=>h'.two hl' (by omega) (h.up (t' - 1) (by omega) (by omega))
 omega
theorem ends_any (s:ByteArray) (w:World) (hmx:s.size≤65536) :
  Calls Tryz.prog 39 #[.string s] w fun e w'=>(∃ f t:Nat,e = .returned (.tuple #[.int .i64 (f:Int),.int .i64 (t:Int)])∧Ends s f t∧(f < t∨(f = 0∧t = 0)))∧Below w.heap.size w w':=by
 go_enter Tryz.func39,Tryz.ntmps39
 go_wp2
 go_loopw [3] (fun i wr=>∃ t:Nat,t≤s.size∧i = .int .i64 (t:Int)∧Hid (∀ (j:Nat) (h:j < s.size),t≤j→(s[j]'h).toNat = 48)∧w = wr) (fun i _=>(intOf i).toNat)
 case atStart=>exact ⟨s.size,Nat.le_refl _,rfl,hide (fun j h hj=>absurd hj (by omega)),rfl⟩
 case round=>
  obtain ⟨t,ht,rfl,HU,rfl⟩:=hrel
  by_cases ht0:0 < t
  ·have hts:t - 1 < s.size:=by omega
   obtain ⟨x,hx⟩:∃ x,x = (s[t - 1]'hts).toNat:=⟨_,rfl⟩
   have hx1:x < 256:=by rw [hx]; exact (s[t - 1]'hts).toNat_lt
   have hsx:(s[t - 1]'hts).toNat = x:=hx.symm
   have HX:=hide hx
   clear hx
   obtain ⟨q,hq⟩:∃ q:Nat,t = q+1:=⟨t - 1,by omega⟩
   subst hq
   have hsx2:(s[q]'(by omega)).toNat = x:=hsx
   clear hsx
   have hqi:(q:Int)+1 - 1 = (q:Int):=by omega
   by_cases hb:x = 48
   ·subst hb
    have HN:Hid (∀ (j:Nat) (h:j < s.size),q≤j→(s[j]'h).toNat = 48):=hide (fun j hj hjk=>by
     by_cases hjk2:q+1≤j
     ·exact unhide HU j hj hjk2
     ·have:j = q:=by omega
      subst this
      exact hsx2)
    go_wp2
    go_roundw
    case rel=>exact ⟨q,by omega,by go_num,unhide HN,trivial⟩
    case measure=>simp [intOf]
   ·have hbi:((x:Int) == 48) = false:=by rw [beq_eq_false_iff_ne]; omega
    have HT:Hid (∀ (_:0 < q+1) (h':q+1 - 1 < s.size),(s[q+1 - 1]'h').toNat≠48):=hide (fun _ _=>by show (s[q]'_).toNat≠48; rw [hsx2]; exact hb)
    clear hb
    go_wp2
    go_loopw [2] (fun i wr=>∃ f:Nat,f≤q+1∧i = .int .i64 (f:Int)∧Hid (∀ (j:Nat) (h:j < s.size),j < f→(s[j]'h).toNat = 48)∧w = wr) (fun i _=>q+1 - (intOf i).toNat)
    case atStart=>exact ⟨0,Nat.zero_le _,rfl,hide (fun j h hj=>absurd hj (Nat.not_lt_zero _)),rfl⟩
    case round=>
     obtain ⟨f,hf,rfl,HL,rfl⟩:=hrel
     by_cases hft:f < q+1
     ·have hfs:f < s.size:=by omega
      obtain ⟨y,hy⟩:∃ y,y = (s[f]'hfs).toNat:=⟨_,rfl⟩
      have hy1:y < 256:=by rw [hy]; exact (s[f]'hfs).toNat_lt
      have hsy:(s[f]'hfs).toNat = y:=hy.symm
      have HY:=hide hy
      clear hy
      have hfti:(f:Int) < ((q:Int)+1):=by omega
      by_cases hb:y = 48
      ·subst hb
       have HN:Hid (∀ (j:Nat) (h:j < s.size),j < f+1→(s[j]'h).toNat = 48):=hide (fun j hj hjk=>by
        by_cases hjk2:j < f
        ·exact unhide HL j hj hjk2
        ·have:j = f:=by omega
         subst this
         exact hsy)
       go_wp2
       go_roundw
       case rel=>exact ⟨f+1,by omega,by go_num,unhide HN,trivial⟩
       case measure=>simp [intOf]; omega
      ·have hbi:((y:Int) == 48) = false:=by rw [beq_eq_false_iff_ne]; omega
       have HE:Hid (Ends s f (q+1)):=hide ⟨hf,ht,unhide HL,unhide HU,fun _ _=>by rw [hsy]; exact hb,fun h h'=>unhide HT (by omega) h'⟩
       clear hb
       go_wp2
       go_ret2
       exact ⟨⟨f,q+1,rfl,unhide HE,Or.inl (by omega)⟩,Below.refl _ _⟩
     ·exact absurd (unhide HL q (by omega) (by omega)) (unhide HT (by omega) (by omega))
  ·obtain rfl:t = 0:=by omega
   have HT:Hid (∀ (_:0 < 0) (h':0 - 1 < s.size),(s[0 - 1]'h').toNat≠48):=hide (fun h=>absurd h (by omega))
   clear ht0
   go_wp2
   go_loopw [2] (fun i wr=>∃ f:Nat,f≤0∧i = .int .i64 (f:Int)∧Hid (∀ (j:Nat) (h:j < s.size),j < f→(s[j]'h).toNat = 48)∧w = wr) (fun i _=>0 - (intOf i).toNat)
   case atStart=>exact ⟨0,Nat.zero_le _,rfl,hide (fun j h hj=>absurd hj (Nat.not_lt_zero _)),rfl⟩
   case round=>
    obtain ⟨f,hf,rfl,HL,rfl⟩:=hrel
    by_cases hft:f < 0
    ·have hfs:f < s.size:=by omega
     obtain ⟨y,hy⟩:∃ y,y = (s[f]'hfs).toNat:=⟨_,rfl⟩
     have hy1:y < 256:=by rw [hy]; exact (s[f]'hfs).toNat_lt
     have hsy:(s[f]'hfs).toNat = y:=hy.symm
     have HY:=hide hy
     clear hy
     have hfti:(f:Int) < (0:Int):=by omega
     by_cases hb:y = 48
     ·subst hb
      have HN:Hid (∀ (j:Nat) (h:j < s.size),j < f+1→(s[j]'h).toNat = 48):=hide (fun j hj hjk=>by
       by_cases hjk2:j < f
       ·exact unhide HL j hj hjk2
       ·have:j = f:=by omega
        subst this
        exact hsy)
      go_wp2
      go_roundw
      case rel=>exact ⟨f+1,by omega,by go_num,unhide HN,trivial⟩
      case measure=>simp [intOf]; omega
     ·have hbi:((y:Int) == 48) = false:=by rw [beq_eq_false_iff_ne]; omega
      have HE:Hid (Ends s f 0):=hide ⟨hf,ht,unhide HL,unhide HU,fun _ _=>by rw [hsy]; exact hb,fun h h'=>unhide HT (by omega) h'⟩
      clear hb
      go_wp2
      go_ret2
      exact ⟨⟨f,0,rfl,unhide HE,Or.inr ⟨by omega,rfl⟩⟩,Below.refl _ _⟩
    ·have HE:Hid (Ends s f 0):=hide ⟨hf,ht,unhide HL,unhide HU,fun h _=>absurd h hft,fun h _=>absurd h hft⟩
     have hfti:(0:Int)≤(f:Int):=by omega
     clear hft
     go_wp2
     go_ret2
     exact ⟨⟨f,0,rfl,unhide HE,Or.inr ⟨by omega,rfl⟩⟩,Below.refl _ _⟩
theorem Ends.none {s:ByteArray} {f:Nat} (h:Ends s f f) (j:Nat) (hj:j < s.size):(s[j]'hj).toNat = 48:=by
 rcases Nat.lt_or_ge j f with q|q
 ·exact h.lo j hj q
 ·exact h.up j hj q
theorem Ends.ex {s:ByteArray} (h:¬ ∀ (j:Nat) (hj:j < s.size),(s[j]'hj).toNat = 48):∃ f q,f≤q∧Ends s f (q+1):=by
 have first:∀ n:Nat,n≤s.size→(∀ (j:Nat) (hj:j < s.size),j < n→(s[j]'hj).toNat = 48)∨∃ (f:Nat) (hf:f < s.size),f < n∧(s[f]'hf).toNat≠48∧∀ (j:Nat) (hj:j < s.size),j < f→(s[j]'hj).toNat = 48:=by
  intro n
  induction n with
  | zero=>intro _; exact Or.inl fun j _ h=>absurd h (Nat.not_lt_zero _)
  | succ n ih=>
   intro hn
   rcases ih (by omega) with h1|⟨f,hf,h1,h2,h3⟩
   ·by_cases hz:(s[n]'(by omega)).toNat = 48
    ·refine Or.inl fun j hj hjn=>?_
     rcases Nat.lt_or_ge j n with q|q
     ·exact h1 j hj q
     ·obtain rfl:j = n:=by omega
      exact hz
    ·exact Or.inr ⟨n,by omega,by omega,hz,h1⟩
   ·exact Or.inr ⟨f,hf,by omega,h2,h3⟩
 have last:∀ n:Nat,n≤s.size→(∀ (j:Nat) (hj:j < s.size),j < n→(s[j]'hj).toNat = 48)∨∃ (q:Nat) (hq:q < s.size),q < n∧(s[q]'hq).toNat≠48∧∀ (j:Nat) (hj:j < s.size),q < j→j < n→(s[j]'hj).toNat = 48:=by
  intro n
  induction n with
  | zero=>intro _; exact Or.inl fun j _ h=>absurd h (Nat.not_lt_zero _)
  | succ n ih=>
   intro hn
   by_cases hz:(s[n]'(by omega)).toNat = 48
   ·have step:∀ (j:Nat) (hj:j < s.size),j < n+1→(j < n→(s[j]'hj).toNat = 48)→(s[j]'hj).toNat = 48:=fun j hj hjn h9=>by
     rcases Nat.lt_or_ge j n with q|q
     ·exact h9 q
     ·obtain rfl:j = n:=by omega
      exact hz
    rcases ih (by omega) with h1|⟨q,hq,h1,h2,h3⟩
    ·exact Or.inl fun j hj hjn=>step j hj hjn (h1 j hj)
    ·exact Or.inr ⟨q,hq,by omega,h2,fun j hj hqj hjn=>step j hj hjn (h3 j hj hqj)⟩
   ·exact Or.inr ⟨n,by omega,by omega,hz,fun j hj h1 h2=>absurd h2 (by omega)⟩
 rcases first s.size (Nat.le_refl _) with h1|⟨f,hf,_,h2,h3⟩
 ·exact absurd (fun j hj=>h1 j hj hj) h
 rcases last s.size (Nat.le_refl _) with h1|⟨q,hq,_,h4,h5⟩
 ·exact absurd (fun j hj=>h1 j hj hj) h
 have hfq:f≤q:=Nat.le_of_not_lt fun hc=>h4 (h3 q hq hc)
 exact ⟨f,q,hfq,⟨by omega,by omega,h3,fun j hj hjq=>h5 j hj (by omega) hj,fun _ _=>h2,fun _ _=>h4⟩⟩
end Go.Proofs.YtplihgoapiiigaaGreatDoor
