/- Of what DecRoundsRow stands on: Parse DcDig DcHalf DcRef. -/
import Derived.Test.YtmmkefdbdpfpdaaPaf
import Derived.Deep.LoopGhost
import Derived.Test.YtmmkefdbdpfpdaaPab
namespace Go.Proofs.Ytmmkefdbdpfpdaa
open Go.RowKit
set_option maxHeartbeats 4000000
def digs (s:ByteArray):List Nat:=s.data.toList.map (fun b=>b.toNat - 48)
def AllD (s:ByteArray) (k:Nat):Prop:=∀ (j:Nat) (h:j < s.size),j < k→48≤(s[j]'h).toNat∧(s[j]'h).toNat≤57
theorem AllD.digS {s:ByteArray} (h:AllD s s.size):DigS s (digs s):=by
 have hl:(digs s).length = s.size:=by simp [digs]
 have hat:∀ (k:Nat) (hk:k < s.size),(digs s)[k]?.getD 0 = (s[k]'hk).toNat - 48:=by
  intro k hk
  have hk2:k < s.data.toList.length:=by simpa using hk
  simp only [digs,List.getElem?_map,List.getElem?_eq_getElem hk2]
  simp
  rfl
 refine ⟨hl.symm,?_,?_⟩
 ·intro d hd
  obtain ⟨k,hk,rfl⟩:=List.getElem_of_mem hd
  have h1:=h k (by omega) (by omega)
  have h2:=hat k (by omega)
  rw [List.getElem?_eq_getElem hk] at h2
  simp only [Option.getD_some] at h2
  omega
 ·intro k hk
  have h1:=h k hk hk
  rw [hat k hk]
  omega
theorem DigS.cut {s:ByteArray} {ds:List Nat} (h:DigS s ds) (a b:Nat) (hab:a≤b) (hb:b≤s.size):DigS (s.extract a b) ((ds.drop a).take (b - a)):=by
 obtain ⟨h1,h2,h3⟩:=h
 have hsz:(s.extract a b).size = b - a:=by rw [ByteArray.size_extract]; omega
 refine ⟨?_,?_,?_⟩
 ·rw [hsz,List.length_take,List.length_drop]; omega
 ·intro d hd; exact h2 d (List.mem_of_mem_drop (List.mem_of_mem_take hd))
 ·intro k hk
  rw [hsz] at hk
  rw [ByteArray.getElem_extract,h3,List.getElem?_take,if_pos hk,List.getElem?_drop]
def ParseAns (s:ByteArray) (base:Nat) (e:Ending) (w':World):Prop:=
 (65536 < s.size∧e = .returned (.tuple #[.agg #[.slice none 0 0],.int .i64 0,.int .i64 3])) ∨
 (s.size = 0∧e = .returned (.tuple #[.agg #[.slice none 0 0],.int .i64 0,.int .i64 12])) ∨
 (∃ (i:Nat) (h:i < s.size),s.size≤65536∧AllD s i∧¬ (48≤(s[i]'h).toNat∧(s[i]'h).toNat≤57)∧e = .returned (.tuple #[.agg #[.slice none 0 0],.int .i64 (i:Int),.int .i64 12])) ∨
 (∃ a n c,0 < s.size∧s.size≤65536∧AllD s s.size∧e = .returned (.tuple #[.agg #[.slice a n c],.int .i64 0,.int .i64 0])∧Mine w' base a n c (Pl.dval (digs s) 0))
def DigB (s:ByteArray) (e:Ending):Prop:=(e = .returned (.bool true)∧AllD s s.size)∨(e = .returned (.bool false)∧¬ AllD s s.size)
theorem allDigits_any (s:ByteArray) (w:World) (hmx:s.size≤65536) :
  Calls Try.prog 34 #[.string s] w fun e w'=>DigB s e∧Below w.heap.size w w':=by
 go_enter Try.func34,Try.ntmps34
 go_wp2
 go_loopw [6] (fun i wr=>∃ k:Nat,k≤s.size∧i = .int .i64 (k:Int)∧Hid (AllD s k)∧w = wr) (fun i _=>s.size - (intOf i).toNat)
 case atStart=>exact ⟨0,Nat.zero_le _,rfl,hide (fun j _ hj=>absurd hj (Nat.not_lt_zero _)),rfl⟩
 case round=>
  obtain ⟨k,hk,rfl,HA,rfl⟩:=hrel
  by_cases hks:k < s.size
  ·obtain ⟨x,hx⟩:∃ x,x = (s[k]'hks).toNat:=⟨_,rfl⟩
   have hx1:x < 256:=by rw [hx]; exact (s[k]'hks).toNat_lt
   have hsx:(s[k]'hks).toNat = x:=hx.symm
   have HX:=hide hx
   clear hx
   by_cases hb:48≤x∧x≤57
   ·obtain ⟨hb1,hb2⟩:=hb
    have hb1i:(48:Int)≤(x:Int):=by omega
    have hb2i:(x:Int)≤57:=by omega
    have HN:Hid (AllD s (k+1)):=hide (fun j hj hjk=>by
     by_cases hjk2:j < k
     ·exact unhide HA j hj hjk2
     ·have:j = k:=by omega
      subst this
      rw [hsx]
      exact ⟨hb1,hb2⟩)
    go_wp2
    go_roundw
    case rel=>exact ⟨k+1,by omega,by go_num,unhide HN,trivial⟩
    case measure=>simp [intOf]; omega
   ·have HBad:Hid (¬ AllD s s.size):=hide (fun h=>hb (by have:=h k hks hks; rw [hsx] at this; exact this))
    by_cases hb1:x < 48
    ·have hb1i:(x:Int) < 48:=by omega
     clear hb
     go_wp2
     go_ret
     exact ⟨Or.inr ⟨rfl,unhide HBad⟩,Below.refl _ _⟩
    ·have hb1i:(48:Int)≤(x:Int):=by omega
     have hb2i:(57:Int) < (x:Int):=by omega
     clear hb hb1
     go_wp2
     go_ret
     exact ⟨Or.inr ⟨rfl,unhide HBad⟩,Below.refl _ _⟩
  ·have hke:k = s.size:=by omega
   subst hke
   go_wp2
   go_ret
   exact ⟨Or.inl ⟨rfl,unhide HA⟩,Below.refl _ _⟩
theorem rdigits_any (s:ByteArray) (w:World) (hmx:s.size≤65536) :
  Calls Try.prog 42 #[.string s] w fun e w'=>DigB s e∧Below w.heap.size w w':=by
 go_enter Try.func42,Try.ntmps42
 go_wp2
 go_loopw [3] (fun i wr=>∃ k:Nat,k≤s.size∧i = .int .i64 (k:Int)∧Hid (AllD s k)∧w = wr) (fun i _=>s.size - (intOf i).toNat)
 case atStart=>exact ⟨0,Nat.zero_le _,rfl,hide (fun j _ hj=>absurd hj (Nat.not_lt_zero _)),rfl⟩
 case round=>
  obtain ⟨k,hk,rfl,HA,rfl⟩:=hrel
  by_cases hks:k < s.size
  ·obtain ⟨x,hx⟩:∃ x,x = (s[k]'hks).toNat:=⟨_,rfl⟩
   have hx1:x < 256:=by rw [hx]; exact (s[k]'hks).toNat_lt
   have hsx:(s[k]'hks).toNat = x:=hx.symm
   have HX:=hide hx
   clear hx
   by_cases hb:48≤x∧x≤57
   ·obtain ⟨hb1,hb2⟩:=hb
    have hb1i:(48:Int)≤(x:Int):=by omega
    have hb2i:(x:Int)≤57:=by omega
    have HN:Hid (AllD s (k+1)):=hide (fun j hj hjk=>by
     by_cases hjk2:j < k
     ·exact unhide HA j hj hjk2
     ·have:j = k:=by omega
      subst this
      rw [hsx]
      exact ⟨hb1,hb2⟩)
    go_wp2
    go_roundw
    case rel=>exact ⟨k+1,by omega,by go_num,unhide HN,trivial⟩
    case measure=>simp [intOf]; omega
   ·have HBad:Hid (¬ AllD s s.size):=hide (fun h=>hb (by have:=h k hks hks; rw [hsx] at this; exact this))
    by_cases hb1:x < 48
    ·have hb1i:(x:Int) < 48:=by omega
     clear hb
     go_wp2
     go_ret
     exact ⟨Or.inr ⟨rfl,unhide HBad⟩,Below.refl _ _⟩
    ·have hb1i:(48:Int)≤(x:Int):=by omega
     have hb2i:(57:Int) < (x:Int):=by omega
     clear hb hb1
     go_wp2
     go_ret
     exact ⟨Or.inr ⟨rfl,unhide HBad⟩,Below.refl _ _⟩
  ·have hke:k = s.size:=by omega
   subst hke
   go_wp2
   go_ret
   exact ⟨Or.inl ⟨rfl,unhide HA⟩,Below.refl _ _⟩
structure Ends (s:ByteArray) (f t:Nat):Prop where
 le:f≤t
 hi:t≤s.size
 lo:∀ (j:Nat) (h:j < s.size),j < f→(s[j]'h).toNat = 48
 up:∀ (j:Nat) (h:j < s.size),t≤j→(s[j]'h).toNat = 48
 one:∀ (_:f < t) (h':f < s.size),(s[f]'h').toNat≠48
 two:∀ (_:f < t) (h':t - 1 < s.size),(s[t - 1]'h').toNat≠48
theorem Ends.uniq {s:ByteArray} {f t f' t':Nat} (h:Ends s f t) (h':Ends s f' t') (hl:f < t):f = f'∧t = t':=by
 have l1:=h.hi; have l2:=h'.hi; have l3:=h'.le
 have a1:f'≤f:=Nat.le_of_not_lt fun hc=>h.one hl (by omega) (h'.lo f (by omega) hc)
 have a2:t≤t':=Nat.le_of_not_lt fun hc=>h.two hl (by omega) (h'.up (t - 1) (by omega) (by omega))
 have hl':f' < t':=by omega
 have a3:f≤f':=Nat.le_of_not_lt fun hc=>h'.one hl' (by omega) (h.lo f' (by omega) hc)
 have a4:t'≤t:=Nat.le_of_not_lt fun hc=>h'.two hl' (by omega) (h.up (t' - 1) (by omega) (by omega))
 omega
theorem ends_any (s:ByteArray) (w:World) (hmx:s.size≤65536) :
  Calls Try.prog 35 #[.string s] w fun e w'=>(∃ f t:Nat,e = .returned (.tuple #[.int .i64 (f:Int),.int .i64 (t:Int)])∧Ends s f t∧(f < t∨(f = 0∧t = 0)))∧Below w.heap.size w w':=by
 go_enter Try.func35,Try.ntmps35
 go_wp2
 go_loopw [3] (fun i wr=>∃ t:Nat,t≤s.size∧i = .int .i64 (t:Int)∧Hid (∀ (j:Nat) (h:j < s.size),t≤j→(s[j]'h).toNat = 48)∧w = wr) (fun i _=>(intOf i).toNat)
 case atStart=>exact ⟨s.size,Nat.le_refl _,rfl,hide (fun j h hj=>absurd hj (by omega)),rfl⟩
 case round=>
  obtain ⟨t,ht,rfl,HU,rfl⟩:=hrel
  by_cases ht0:0 < t
  ·have hts:t - 1 < s.size:=by omega
   obtain ⟨x,hx⟩:∃ x,x = (s[t - 1]'hts).toNat:=⟨_,rfl⟩
   have hx1:x < 256:=by rw [hx]; exact (s[t - 1]'hts).toNat_lt
   have hsx:(s[t - 1]'hts).toNat = x:=hx.symm
   have HX:=hide hx
   clear hx
   obtain ⟨q,hq⟩:∃ q:Nat,t = q+1:=⟨t - 1,by omega⟩
   subst hq
   have hsx2:(s[q]'(by omega)).toNat = x:=hsx
   clear hsx
   have hqi:(q:Int)+1 - 1 = (q:Int):=by omega
   by_cases hb:x = 48
   ·subst hb
    have HN:Hid (∀ (j:Nat) (h:j < s.size),q≤j→(s[j]'h).toNat = 48):=hide (fun j hj hjk=>by
     by_cases hjk2:q+1≤j
     ·exact unhide HU j hj hjk2
     ·have:j = q:=by omega
      subst this
      exact hsx2)
    go_wp2
    go_roundw
    case rel=>exact ⟨q,by omega,by go_num,unhide HN,trivial⟩
    case measure=>simp [intOf]
   ·have hbi:((x:Int) == 48) = false:=by rw [beq_eq_false_iff_ne]; omega
    have HT:Hid (∀ (_:0 < q+1) (h':q+1 - 1 < s.size),(s[q+1 - 1]'h').toNat≠48):=hide (fun _ _=>by show (s[q]'_).toNat≠48; rw [hsx2]; exact hb)
    clear hb
    go_wp2
    go_loopw [2] (fun i wr=>∃ f:Nat,f≤q+1∧i = .int .i64 (f:Int)∧Hid (∀ (j:Nat) (h:j < s.size),j < f→(s[j]'h).toNat = 48)∧w = wr) (fun i _=>q+1 - (intOf i).toNat)
    case atStart=>exact ⟨0,Nat.zero_le _,rfl,hide (fun j h hj=>absurd hj (Nat.not_lt_zero _)),rfl⟩
    case round=>
     obtain ⟨f,hf,rfl,HL,rfl⟩:=hrel
     by_cases hft:f < q+1
     ·have hfs:f < s.size:=by omega
      obtain ⟨y,hy⟩:∃ y,y = (s[f]'hfs).toNat:=⟨_,rfl⟩
      have hy1:y < 256:=by rw [hy]; exact (s[f]'hfs).toNat_lt
      have hsy:(s[f]'hfs).toNat = y:=hy.symm
      have HY:=hide hy
      clear hy
      have hfti:(f:Int) < ((q:Int)+1):=by omega
      by_cases hb:y = 48
      ·subst hb
       have HN:Hid (∀ (j:Nat) (h:j < s.size),j < f+1→(s[j]'h).toNat = 48):=hide (fun j hj hjk=>by
        by_cases hjk2:j < f
        ·exact unhide HL j hj hjk2
        ·have:j = f:=by omega
         subst this
         exact hsy)
       go_wp2
       go_roundw
       case rel=>exact ⟨f+1,by omega,by go_num,unhide HN,trivial⟩
       case measure=>simp [intOf]; omega
      ·have hbi:((y:Int) == 48) = false:=by rw [beq_eq_false_iff_ne]; omega
       have HE:Hid (Ends s f (q+1)):=hide ⟨hf,ht,unhide HL,unhide HU,fun _ _=>by rw [hsy]; exact hb,fun h h'=>unhide HT (by omega) h'⟩
       clear hb
       go_wp2
       go_ret2
       exact ⟨⟨f,q+1,rfl,unhide HE,Or.inl (by omega)⟩,Below.refl _ _⟩
     ·exact absurd (unhide HL q (by omega) (by omega)) (unhide HT (by omega) (by omega))
  ·obtain rfl:t = 0:=by omega
   have HT:Hid (∀ (_:0 < 0) (h':0 - 1 < s.size),(s[0 - 1]'h').toNat≠48):=hide (fun h=>absurd h (by omega))
   clear ht0
   go_wp2
   go_loopw [2] (fun i wr=>∃ f:Nat,f≤0∧i = .int .i64 (f:Int)∧Hid (∀ (j:Nat) (h:j < s.size),j < f→(s[j]'h).toNat = 48)∧w = wr) (fun i _=>0 - (intOf i).toNat)
   case atStart=>exact ⟨0,Nat.zero_le _,rfl,hide (fun j h hj=>absurd hj (Nat.not_lt_zero _)),rfl⟩
   case round=>
    obtain ⟨f,hf,rfl,HL,rfl⟩:=hrel
    by_cases hft:f < 0
    ·have hfs:f < s.size:=by omega
     obtain ⟨y,hy⟩:∃ y,y = (s[f]'hfs).toNat:=⟨_,rfl⟩
     have hy1:y < 256:=by rw [hy]; exact (s[f]'hfs).toNat_lt
     have hsy:(s[f]'hfs).toNat = y:=hy.symm
     have HY:=hide hy
     clear hy
     have hfti:(f:Int) < (0:Int):=by omega
     by_cases hb:y = 48
     ·subst hb
      have HN:Hid (∀ (j:Nat) (h:j < s.size),j < f+1→(s[j]'h).toNat = 48):=hide (fun j hj hjk=>by
       by_cases hjk2:j < f
       ·exact unhide HL j hj hjk2
       ·have:j = f:=by omega
        subst this
        exact hsy)
      go_wp2
      go_roundw
      case rel=>exact ⟨f+1,by omega,by go_num,unhide HN,trivial⟩
      case measure=>simp [intOf]; omega
     ·have hbi:((y:Int) == 48) = false:=by rw [beq_eq_false_iff_ne]; omega
      have HE:Hid (Ends s f 0):=hide ⟨hf,ht,unhide HL,unhide HU,fun _ _=>by rw [hsy]; exact hb,fun h h'=>unhide HT (by omega) h'⟩
      clear hb
      go_wp2
      go_ret2
      exact ⟨⟨f,0,rfl,unhide HE,Or.inr ⟨by omega,rfl⟩⟩,Below.refl _ _⟩
    ·have HE:Hid (Ends s f 0):=hide ⟨hf,ht,unhide HL,unhide HU,fun h _=>absurd h hft,fun h _=>absurd h hft⟩
     have hfti:(0:Int)≤(f:Int):=by omega
     clear hft
     go_wp2
     go_ret2
     exact ⟨⟨f,0,rfl,unhide HE,Or.inr ⟨by omega,rfl⟩⟩,Below.refl _ _⟩
theorem Ends.none {s:ByteArray} {f:Nat} (h:Ends s f f) (j:Nat) (hj:j < s.size):(s[j]'hj).toNat = 48:=by
 rcases Nat.lt_or_ge j f with q|q
 ·exact h.lo j hj q
 ·exact h.up j hj q
theorem Ends.ex {s:ByteArray} (h:¬ ∀ (j:Nat) (hj:j < s.size),(s[j]'hj).toNat = 48):∃ f q,f≤q∧Ends s f (q+1):=by
 have first:∀ n:Nat,n≤s.size→(∀ (j:Nat) (hj:j < s.size),j < n→(s[j]'hj).toNat = 48)∨∃ (f:Nat) (hf:f < s.size),f < n∧(s[f]'hf).toNat≠48∧∀ (j:Nat) (hj:j < s.size),j < f→(s[j]'hj).toNat = 48:=by
  intro n
  induction n with
  | zero=>intro _; exact Or.inl fun j _ h=>absurd h (Nat.not_lt_zero _)
  | succ n ih=>
   intro hn
   rcases ih (by omega) with h1|⟨f,hf,h1,h2,h3⟩
   ·by_cases hz:(s[n]'(by omega)).toNat = 48
    ·refine Or.inl fun j hj hjn=>?_
     rcases Nat.lt_or_ge j n with q|q
     ·exact h1 j hj q
     ·obtain rfl:j = n:=by omega
      exact hz
    ·exact Or.inr ⟨n,by omega,by omega,hz,h1⟩
   ·exact Or.inr ⟨f,hf,by omega,h2,h3⟩
 have last:∀ n:Nat,n≤s.size→(∀ (j:Nat) (hj:j < s.size),j < n→(s[j]'hj).toNat = 48)∨∃ (q:Nat) (hq:q < s.size),q < n∧(s[q]'hq).toNat≠48∧∀ (j:Nat) (hj:j < s.size),q < j→j < n→(s[j]'hj).toNat = 48:=by
  intro n
  induction n with
  | zero=>intro _; exact Or.inl fun j _ h=>absurd h (Nat.not_lt_zero _)
  | succ n ih=>
   intro hn
   by_cases hz:(s[n]'(by omega)).toNat = 48
   ·have step:∀ (j:Nat) (hj:j < s.size),j < n+1→(j < n→(s[j]'hj).toNat = 48)→(s[j]'hj).toNat = 48:=fun j hj hjn h9=>by
     rcases Nat.lt_or_ge j n with q|q
     ·exact h9 q
     ·obtain rfl:j = n:=by omega
      exact hz
    rcases ih (by omega) with h1|⟨q,hq,h1,h2,h3⟩
    ·exact Or.inl fun j hj hjn=>step j hj hjn (h1 j hj)
    ·exact Or.inr ⟨q,hq,by omega,h2,fun j hj hqj hjn=>step j hj hjn (h3 j hj hqj)⟩
   ·exact Or.inr ⟨n,by omega,by omega,hz,fun j hj h1 h2=>absurd h2 (by omega)⟩
 rcases first s.size (Nat.le_refl _) with h1|⟨f,hf,_,h2,h3⟩
 ·exact absurd (fun j hj=>h1 j hj hj) h
 rcases last s.size (Nat.le_refl _) with h1|⟨q,hq,_,h4,h5⟩
 ·exact absurd (fun j hj=>h1 j hj hj) h
 have hfq:f≤q:=Nat.le_of_not_lt fun hc=>h4 (h3 q hq hc)
 exact ⟨f,q,hfq,⟨by omega,by omega,h3,fun j hj hjq=>h5 j hj (by omega) hj,fun _ _=>h2,fun _ _=>h4⟩⟩
def gOut (md:Nat) (g o:Bool) (c:Int):Bool:=match md with
 | 0=>decide (0 < c) || (decide (c = 0) && o)
 | 1=>decide (0≤c)
 | 2=>false
 | 3=>!g
 | _=>g
theorem goesOut_any (md:Nat) (g o:Bool) (c:Int) (hm:md≤4) (hc:c = -1∨c = 0∨c = 1) (w:World) :
  Calls Try.prog 66 #[.int .u8 (md:Int),.bool g,.bool o,.int .i64 c] w fun e w'=>e = .returned (.bool (gOut md g o c))∧w' = w:=by
 have h5:md = 0∨md = 1∨md = 2∨md = 3∨md = 4:=by omega
 rcases h5 with rfl|rfl|rfl|rfl|rfl <;> rcases hc with rfl|rfl|rfl <;> (go_enter Try.func66,Try.ntmps66; go_wp2; go_ret; exact ⟨rfl,rfl⟩)
theorem higher_any (md:Nat) (g o:Bool) (c:Int) (hm:md≤4) (hc:c = -1∨c = 0∨c = 1) (w:World) :
  Calls Try.prog 96 #[.bool g,.bool o,.int .i64 c,.int .u8 (md:Int)] w fun e w'=>e = .returned (.bool (gOut md g o c))∧Below w.heap.size w w':=by
 have h5:md = 0∨md = 1∨md = 2∨md = 3∨md = 4:=by omega
 rcases h5 with rfl|rfl|rfl|rfl|rfl <;> rcases hc with rfl|rfl|rfl <;> (go_enter Try.func96,Try.ntmps96; go_wp2; go_ret; exact ⟨rfl,Below.refl _ _⟩)
def cmpS (s t:ByteArray):Int:=if Op.bytesLess s.toList t.toList then -1 else if s.toList == t.toList then 0 else 1
theorem cmpS_any (s t:ByteArray) (w:World) :
  Calls Try.prog 76 #[.string s,.string t] w fun e w'=>e = .returned (.int .i64 (cmpS s t))∧w' = w:=by
 unfold cmpS
 cases h1:Op.bytesLess s.toList t.toList <;> cases h2:s.toList == t.toList
 all_goals (go_enter Try.func76,Try.ntmps76; go_wp2; go_ret; exact ⟨rfl,rfl⟩)
theorem half_less (u:ByteArray) (n:Int) (h:(u.size:Int) < n) (w:World):Calls Try.prog 67 #[.string u,.int .i64 n] w fun e w'=>e = .returned (.int .i64 (-1))∧w' = w:=by
 go_enter Try.func67,Try.ntmps67
 go_wp2
 go_ret
 exact ⟨rfl,rfl⟩
theorem half_in (u:ByteArray) (n:Int) (h:n≤(u.size:Int)) (w:World):Calls Try.prog 67 #[.string u,.int .i64 n] w fun e w'=>e = .returned (.int .i64 (cmpS u ⟨#[53]⟩))∧w' = w:=by
 go_enter Try.func67,Try.ntmps67
 go_wp2_with fail
 refine (cmpS_any u _ w).mono ?_
 rintro e w1 ⟨rfl,rfl⟩
 go_wp2
 go_ret
 exact ⟨rfl,rfl⟩
theorem cmp5 {u:ByteArray} {a:UInt8} {r:List UInt8} (h:u.data.toList = a :: r):cmpS u ⟨#[53]⟩ = if a.toNat < 53 then -1 else if a.toNat = 53∧r = [] then 0 else 1:=by
 unfold cmpS
 rw [ByteArray.toList_eq,ByteArray.toList_eq,h]
 have hl:Op.bytesLess (a :: r) [53] = decide (a.toNat < 53):=by
  have:Op.bytesLess r [] = false:=by cases r <;> rfl
  simp only [Op.bytesLess,this,Bool.and_false,Bool.or_false]
  exact decide_eq_decide.2 UInt8.lt_iff_toNat_lt
 show (if Op.bytesLess (a :: r) [53] then (-1:Int) else if (a :: r) == [53] then 0 else 1) = _
 rw [hl]
 by_cases h1:a.toNat < 53
 ·rw [if_pos (by simpa using h1),if_pos h1]
 ·rw [if_neg (by simpa using h1),if_neg h1]
  have e:((a :: r) == [53]) = decide (a.toNat = 53∧r = []):=by
   rw [Bool.eq_iff_iff,beq_iff_eq,decide_eq_true_iff,List.cons.injEq]
   exact and_congr_left fun _=>⟨fun e=>by rw [e]; rfl,fun e=>UInt8.toNat_inj.1 e⟩
  rw [e]
  by_cases h2:a.toNat = 53∧r = []
  ·rw [if_pos (by simpa using h2),if_pos h2]
  ·rw [if_neg (by simpa using h2),if_neg h2]
theorem cmp5_in (u:ByteArray):cmpS u ⟨#[53]⟩ = -1∨cmpS u ⟨#[53]⟩ = 0∨cmpS u ⟨#[53]⟩ = 1:=by
 unfold cmpS
 split
 ·exact Or.inl rfl
 ·split
  ·exact Or.inr (Or.inl rfl)
  ·exact Or.inr (Or.inr rfl)
theorem far_is (x:Int) (w:World):Calls Try.prog 43 #[.int .i64 x] w fun e w'=>e = .returned (.bool (decide (x < -1073741824) || decide (1073741824 < x)))∧Below w.heap.size w w':=by
 by_cases h1:x < -1073741824
 ·go_enter Try.func43,Try.ntmps43
  go_wp2
  go_ret
  exact ⟨by simp [h1],Below.refl _ _⟩
 ·by_cases h2:1073741824 < x
  ·go_enter Try.func43,Try.ntmps43
   go_wp2
   go_ret
   exact ⟨rfl,Below.refl _ _⟩
  ·go_enter Try.func43,Try.ntmps43
   go_wp2
   go_ret
   exact ⟨by simp [h1,h2],Below.refl _ _⟩
def RMk (g:Bool) (s:ByteArray) (x:Int) (e:Ending):Prop:=
 (∃ f:Nat,e = .returned (.tuple #[.agg #[.bool g,.string ⟨#[]⟩,.int .i64 0],.int .i64 0])∧Ends s f f) ∨
 (∃ f q:Nat,e = .returned (.tuple #[.agg #[.bool false,.string ⟨#[]⟩,.int .i64 0],.int .i64 4])∧Ends s f (q+1)∧f≤q∧(x+(s.size:Int) - ((q:Int)+1) < -1073741824∨1073741824 < x+(s.size:Int) - ((q:Int)+1))) ∨
 (∃ f q:Nat,e = .returned (.tuple #[.agg #[.bool g,.string (s.extract f (q+1)),.int .i64 (x+(s.size:Int) - ((q:Int)+1))],.int .i64 0])∧Ends s f (q+1)∧f≤q∧¬ (x+(s.size:Int) - ((q:Int)+1) < -1073741824∨1073741824 < x+(s.size:Int) - ((q:Int)+1)))
theorem rmake_in (g:Bool) (s:ByteArray) (x:Int) (w:World) (hx0:-9223372036854775808≤x) (hx1:x < 9223372036854775808) (hm:s.size≤65536) (HD:Hid (AllD s s.size)) :
  Calls Try.prog 17 #[.bool g,.string s,.int .i64 x] w fun e w'=>RMk g s x e∧Below w.heap.size w w':=by
 go_enter Try.func17,Try.ntmps17
 go_wp2_with fail
 refine (rdigits_any s _ hm).mono ?_
 rintro e w1 ⟨⟨rfl,-⟩|⟨rfl,hd⟩,hb1⟩
 case inr=>exact absurd (unhide HD) hd
 have hS:=(Fs.one w #[.bool false,.string ⟨#[]⟩,.int .i64 0] 23).kept hb1
 clear hb1
 go_wp2
 go_loopw [8] (fun i wr=>∃ f:Nat,f≤s.size∧i = .int .i64 (f:Int)∧Hid (∀ (j:Nat) (h:j < s.size),j < f→(s[j]'h).toNat = 48)∧w1 = wr) (fun i _=>s.size - (intOf i).toNat)
 case atStart=>exact ⟨0,Nat.zero_le _,rfl,hide (fun j h hj=>absurd hj (Nat.not_lt_zero _)),rfl⟩
 case round=>
  obtain ⟨f,hf,rfl,HL,rfl⟩:=hrel
  by_cases hfs:f < s.size
  ·obtain ⟨y,hy⟩:∃ y,y = (s[f]'hfs).toNat:=⟨_,rfl⟩
   have hy1:y < 256:=by rw [hy]; exact (s[f]'hfs).toNat_lt
   have hsy:(s[f]'hfs).toNat = y:=hy.symm
   have HY:=hide hy
   clear hy
   have hfti:(f:Int) < (s.size:Int):=by omega
   by_cases hb:y = 48
   ·subst hb
    have HN:Hid (∀ (j:Nat) (h:j < s.size),j < f+1→(s[j]'h).toNat = 48):=hide (fun j hj hjk=>by
     by_cases hjk2:j < f
     ·exact unhide HL j hj hjk2
     ·have:j = f:=by omega
      subst this
      exact hsy)
    go_wp2
    go_roundw
    case rel=>exact ⟨f+1,by omega,by go_num,unhide HN,trivial⟩
    case measure=>simp [intOf]; omega
   ·have hbi:((y:Int) == 48) = false:=by rw [beq_eq_false_iff_ne]; omega
    have HT:Hid (∀ (h':f < s.size),(s[f]'h').toNat≠48):=hide (fun _=>by rw [hsy]; exact hb)
    clear hb
    go_wp2
    clear hsy hbi HY hy1 hfti
    go_loopw [9] (fun i wr=>∃ t:Nat,f≤t∧t≤s.size∧i = .int .i64 (t:Int)∧Hid (∀ (j:Nat) (h:j < s.size),t≤j→(s[j]'h).toNat = 48)∧w1 = wr) (fun i _=>(intOf i).toNat)
    case atStart=>exact ⟨s.size,by omega,Nat.le_refl _,rfl,hide (fun j h hj=>absurd hj (by omega)),rfl⟩
    case round=>
     obtain ⟨t,hft,hts,rfl,HU,rfl⟩:=hrel
     by_cases hlt:f < t
     ·obtain ⟨q,rfl⟩:∃ q:Nat,t = q+1:=⟨t - 1,by omega⟩
      have hqs:q < s.size:=by omega
      have hfq:f≤q:=by omega
      have hlti:(f:Int) < (q:Int)+1:=by omega
      have hqi:(q:Int)+1 - 1 = (q:Int):=by omega
      obtain ⟨x9,hx⟩:∃ x9,x9 = (s[q]'hqs).toNat:=⟨_,rfl⟩
      have hx1:x9 < 256:=by rw [hx]; exact (s[q]'hqs).toNat_lt
      have hsx2:(s[q]'hqs).toNat = x9:=hx.symm
      have HX:=hide hx
      clear hx
      by_cases hb:x9 = 48
      ·subst hb
       have HN:Hid (∀ (j:Nat) (h:j < s.size),q≤j→(s[j]'h).toNat = 48):=hide (fun j hj hjk=>by
        by_cases hjk2:q+1≤j
        ·exact unhide HU j hj hjk2
        ·have:j = q:=by omega
         subst this
         exact hsx2)
       go_wp2
       go_roundw
       case rel=>exact ⟨q,by omega,by omega,by go_num,unhide HN,trivial⟩
       case measure=>simp [intOf]
      ·have hbi:((x9:Int) == 48) = false:=by rw [beq_eq_false_iff_ne]; omega
       have HE:Hid (Ends s f (q+1)):=hide ⟨by omega,hts,unhide HL,unhide HU,fun _ h'=>unhide HT h',fun _ _=>by show (s[q]'_).toNat≠48; rw [hsx2]; exact hb⟩
       have hne:((f:Int) == (q:Int)+1) = false:=by rw [beq_eq_false_iff_ne]; omega
       clear hb
       by_cases c1:1073741824 < x
       ·have HR:Hid (x+(s.size:Int) - ((q:Int)+1) < -1073741824∨1073741824 < x+(s.size:Int) - ((q:Int)+1)):=hide (by omega)
        have Q_:=hS.frozen (b:=w.heap.size) (cs:=#[.bool false,.string ⟨#[]⟩,.int .i64 0]) (t:=23) (by simp)
        have fz0:=Q_ 0
        have fz1:=Q_ 1
        have fz2:=Q_ 2
        clear Q_
        obtain ⟨⟨z0,z1,z2,-⟩,-⟩:=hS.cells
        go_wp2
        exact bodyPost_ret (v:=.tuple #[.agg #[.bool false,.string ⟨#[]⟩,.int .i64 0],.int .i64 4]) (by simp [results,Try.results17,go_sem,z0,z1,z2]) rfl ⟨Or.inr (Or.inl ⟨f,q,rfl,unhide HE,hfq,unhide HR⟩),((hS.fr.setCell (by simp) _).setCell (by simp) _).setCell (by simp) _⟩
       by_cases c2:x < -2147483648
       ·have HR:Hid (x+(s.size:Int) - ((q:Int)+1) < -1073741824∨1073741824 < x+(s.size:Int) - ((q:Int)+1)):=hide (by omega)
        have Q_:=hS.frozen (b:=w.heap.size) (cs:=#[.bool false,.string ⟨#[]⟩,.int .i64 0]) (t:=23) (by simp)
        have fz0:=Q_ 0
        have fz1:=Q_ 1
        have fz2:=Q_ 2
        clear Q_
        obtain ⟨⟨z0,z1,z2,-⟩,-⟩:=hS.cells
        go_wp2
        exact bodyPost_ret (v:=.tuple #[.agg #[.bool false,.string ⟨#[]⟩,.int .i64 0],.int .i64 4]) (by simp [results,Try.results17,go_sem,z0,z1,z2]) rfl ⟨Or.inr (Or.inl ⟨f,q,rfl,unhide HE,hfq,unhide HR⟩),((hS.fr.setCell (by simp) _).setCell (by simp) _).setCell (by simp) _⟩
       have hw1:IntKind.i64.wrap (x+(s.size:Int)) = x+(s.size:Int):=by rw [IntKind.wrap_i64]; omega
       have hw2:IntKind.i64.wrap (x+(s.size:Int) - ((q:Int)+1)) = x+(s.size:Int) - ((q:Int)+1):=by rw [IntKind.wrap_i64]; omega
       go_wp2_with fail
       refine (far_is _ _).mono ?_
       rintro e w2 ⟨rfl,hb2⟩
       have hS2:=hS.kept hb2
       clear hb2 hS
       have hS:=hS2
       by_cases c3:x+(s.size:Int) - ((q:Int)+1) < -1073741824∨1073741824 < x+(s.size:Int) - ((q:Int)+1)
       ·have hbo:(decide (x+(s.size:Int) - ((q:Int)+1) < -1073741824) || decide (1073741824 < x+(s.size:Int) - ((q:Int)+1))) = true:=by simpa using c3
        rw [hbo]
        have HR:=hide c3
        clear hbo c3
        have Q_:=hS.frozen (b:=w.heap.size) (cs:=#[.bool false,.string ⟨#[]⟩,.int .i64 0]) (t:=23) (by simp)
        have fz0:=Q_ 0
        have fz1:=Q_ 1
        have fz2:=Q_ 2
        clear Q_
        obtain ⟨⟨z0,z1,z2,-⟩,-⟩:=hS.cells
        go_wp2
        exact bodyPost_ret (v:=.tuple #[.agg #[.bool false,.string ⟨#[]⟩,.int .i64 0],.int .i64 4]) (by simp [results,Try.results17,go_sem,z0,z1,z2]) rfl ⟨Or.inr (Or.inl ⟨f,q,rfl,unhide HE,hfq,unhide HR⟩),((hS.fr.setCell (by simp) _).setCell (by simp) _).setCell (by simp) _⟩
       ·have hbo:(decide (x+(s.size:Int) - ((q:Int)+1) < -1073741824) || decide (1073741824 < x+(s.size:Int) - ((q:Int)+1))) = false:=by simp; omega
        rw [hbo]
        have HR:=hide c3
        clear hbo c3
        have Q_:=hS.frozen (b:=w.heap.size) (cs:=#[.bool false,.string ⟨#[]⟩,.int .i64 0]) (t:=23) (by simp)
        have fz0:=Q_ 0
        have fz1:=Q_ 1
        have fz2:=Q_ 2
        clear Q_
        obtain ⟨⟨z0,z1,z2,-⟩,-⟩:=hS.cells
        go_wp2
        exact bodyPost_ret (v:=.tuple #[.agg #[.bool g,.string (s.extract f (q+1)),.int .i64 (x+(s.size:Int) - ((q:Int)+1))],.int .i64 0]) (by simp [results,Try.results17,go_sem,z0,z1,z2]) rfl ⟨Or.inr (Or.inr ⟨f,q,rfl,unhide HE,hfq,unhide HR⟩),((hS.fr.setCell (by simp) _).setCell (by simp) _).setCell (by simp) _⟩
     ·obtain rfl:f = t:=by omega
      clear hlt
      have HE:Hid (Ends s f f):=hide ⟨Nat.le_refl _,hts,unhide HL,unhide HU,fun h _=>absurd h (Nat.lt_irrefl _),fun h _=>absurd h (Nat.lt_irrefl _)⟩
      have Q_:=hS.frozen (b:=w.heap.size) (cs:=#[.bool false,.string ⟨#[]⟩,.int .i64 0]) (t:=23) (by simp)
      have fz0:=Q_ 0
      have fz1:=Q_ 1
      have fz2:=Q_ 2
      clear Q_
      obtain ⟨⟨z0,z1,z2,-⟩,-⟩:=hS.cells
      go_wp2
      exact bodyPost_ret (v:=.tuple #[.agg #[.bool g,.string ⟨#[]⟩,.int .i64 0],.int .i64 0]) (by simp [results,Try.results17,go_sem,z0,z1,z2]) rfl ⟨Or.inl ⟨f,rfl,unhide HE⟩,((hS.fr.setCell (by simp) _).setCell (by simp) _).setCell (by simp) _⟩
  ·obtain rfl:f = s.size:=by omega
   clear hfs
   go_wp2
   go_loopw [9] (fun i wr=>∃ t:Nat,t = s.size∧i = .int .i64 (t:Int)∧w1 = wr) (fun i _=>(intOf i).toNat)
   case atStart=>exact ⟨s.size,rfl,rfl,rfl⟩
   case round=>
    obtain ⟨t,rfl,rfl,rfl⟩:=hrel
    have HE:Hid (Ends s s.size s.size):=hide ⟨Nat.le_refl _,Nat.le_refl _,unhide HL,fun j h hj=>absurd h (by omega),fun h _=>absurd h (Nat.lt_irrefl _),fun h _=>absurd h (Nat.lt_irrefl _)⟩
    have Q_:=hS.frozen (b:=w.heap.size) (cs:=#[.bool false,.string ⟨#[]⟩,.int .i64 0]) (t:=23) (by simp)
    have fz0:=Q_ 0
    have fz1:=Q_ 1
    have fz2:=Q_ 2
    clear Q_
    obtain ⟨⟨z0,z1,z2,-⟩,-⟩:=hS.cells
    go_wp2
    exact bodyPost_ret (v:=.tuple #[.agg #[.bool g,.string ⟨#[]⟩,.int .i64 0],.int .i64 0]) (by simp [results,Try.results17,go_sem,z0,z1,z2]) rfl ⟨Or.inl ⟨s.size,rfl,unhide HE⟩,((hS.fr.setCell (by simp) _).setCell (by simp) _).setCell (by simp) _⟩
end Go.Proofs.Ytmmkefdbdpfpdaa
