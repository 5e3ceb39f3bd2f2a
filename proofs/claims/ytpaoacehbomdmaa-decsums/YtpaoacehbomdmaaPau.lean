/- Of what DecSumsRow stands on: RefParse RefLess RefSums RefText. -/
import Derived.Test.YtpaoacehbomdmaaPas
import Derived.Test.YtpaoacehbomdmaaPat
import Derived.Test.YtpaoacehbomdmaaPah
import Derived.Test.YtpaoacehbomdmaaPap
import Derived.Test.YtpaoacehbomdmaaPaf
import Derived.Deep.LoopGhost
namespace Go.Proofs.Ytpaoacehbomdmaa
open Go.RowKit
set_option maxHeartbeats 4000000
set_option maxRecDepth 20000
theorem rparse_long (s:ByteArray) (w:World) (h:65536 < s.size) (hm:s.size≤9223372036854775807) :
  Calls Try.prog 78 #[.string s] w fun e w'=>ParseAns s w.heap.size e w'∧Below w.heap.size w w':=by
 have hi:(65536:Int) < (s.size:Int):=by omega
 have H:=hide h
 clear h
 go_enter Try.func78,Try.ntmps78
 go_wp2
 exact bodyPost_ret (v:=.tuple #[.agg #[.slice none 0 0],.int .i64 0,.int .i64 3]) (by simp [results,Try.results78,go_sem]) rfl ⟨Or.inl ⟨unhide H,rfl⟩,gr_alloc _ _⟩
theorem rparse_none (s:ByteArray) (w:World) (h:s.size = 0) :
  Calls Try.prog 78 #[.string s] w fun e w'=>ParseAns s w.heap.size e w'∧Below w.heap.size w w':=by
 have H:=hide h
 go_enter Try.func78,Try.ntmps78
 go_wp2
 refine wp_loop_rounds 1 ?_
 rw [rounds_succ]
 go_wp2
 exact bodyPost_ret (v:=.tuple #[.agg #[.slice none 0 0],.int .i64 0,.int .i64 12]) (by simp [results,Try.results78,go_sem]) rfl ⟨Or.inr (Or.inl ⟨unhide H,rfl⟩),gr_alloc _ _⟩
theorem rtimes_nil (a:Option Addr) (cap b' off' cap' ny:Nat) (w:World) (hy:ny≤40000) :
  Calls Try.prog 95 #[.slice a 0 cap,.slice (some ⟨b',off',none⟩) ny cap'] w
   fun e w'=>TimesTo w.heap.size ny 0 e w'∧Below w.heap.size w w':=by
 have hmk:=make_limbs ((0:Int)+(ny:Int)) ny (by omega) (by omega)
 rw [Int.zero_add] at hmk
 have HR:=hide (Row.made w (List.replicate ny 0))
 go_enter Try.func95,Try.ntmps95
 go_wp2
 clear hmk
 refine wp_loop_rounds 1 ?_
 rw [rounds_succ]
 go_wp2_with fail
 refine (rtrim_at w.heap.size 0 ny ny (List.replicate ny 0) _ (by simp) (Nat.le_refl _) (by omega) (fun j hj=>by rw [Nat.zero_add]; exact (unhide HR).cell j hj)).mono ?_
 rintro e w1 ⟨rfl,n,hn,h0,h1,rfl⟩
 have hn2:n≤ny:=by simpa using hn
 have HT:=hide (rtrim_row (cap:=ny) (unhide HR) (Nat.le_refl _) (by simp; omega) (Pl.wf_replicate ny) hn (by simp) hn2 h0 h1)
 clear h0 h1 hn
 go_wp2
 go_ret
 obtain ⟨t1,t2,t3,t4,t5⟩:=unhide HT
 exact ⟨⟨n,_,rfl,hn2,t1,t2,t3,t4,t5.trans (Pl.val_replicate ny)⟩,gr_alloc _ _⟩
theorem rtimes_lim (a:Option Addr) (n cap b' off' ny cap':Nat) (xs ys:List Nat) (w:World) (hxl:xs.length = n) (hyl:ys.length = ny) (hx:n≤40000) (hy:ny≤40000) (wx:Pl.Wf xs) (wy:Pl.Wf ys) (hl:Lim w a xs) (hgy:b' < w.heap.size)
  (hcy:∀ j,j < ny→w.cell? ⟨b',off'+j,none⟩ = some (.int .u32 ((ys[j]?.getD 0:Nat):Int))) :
  Calls Try.prog 95 #[.slice a n cap,.slice (some ⟨b',off',none⟩) ny cap'] w
   fun e w'=>TimesTo w.heap.size (n+ny) (Pl.val xs * Pl.val ys) e w'∧Below w.heap.size w w':=by
 rcases hl.parts with h|⟨hp,b,off,rfl,hlt,hc⟩
 ·subst h
  obtain rfl:n = 0:=by rw [← hxl]; rfl
  have:=rtimes_nil a cap b' off' cap' ny w hy
  simpa [Pl.val] using this
 ·exact rtimes_some b off cap b' off' cap' n ny xs ys w (hide hxl) (hide hyl) hx hy wx wy hlt hgy (hide (fun j hj=>hc j (by omega))) (hide hcy)
theorem row_one (w:World) (x:Nat):Row (w.alloc (.cells #[.int .u32 (x:Int)] 95)) w.heap.size [x]:=by
 have:=Row.made w [x]
 simpa [lc] using this
theorem rplus_max (a a':Option Addr) (n n' cap cap':Nat) (xs ys:List Nat) (w:World) (hn:xs.length = n) (hn':ys.length = n') (hl:Lim w a xs) (hl':Lim w a' ys) (hw:Pl.Wf xs) (hw':Pl.Wf ys) (hN:Pl.Norm xs) (hN':Pl.Norm ys) (hb:n≤40000) (hb':n'≤40000) :
  Calls Try.prog 82 #[.slice a n cap,.slice a' n' cap'] w fun e w'=>PlusTo w.heap.size (n+n') (Pl.val xs+Pl.val ys) e w'∧Below w.heap.size w w':=by
 by_cases h:n≤n'
 ·refine (rplus_list a a' n n' cap cap' n' xs ys w hn hn' hl hl' hw hw' hN hN' h (Nat.le_refl _) hb' (hide (Or.inr rfl))).mono ?_
  rintro e w' ⟨⟨b,k,c,zs,h1,h2,h3⟩,h4⟩
  exact ⟨⟨b,k,c,zs,h1,by omega,h3⟩,h4⟩
 ·refine (rplus_list a a' n n' cap cap' n xs ys w hn hn' hl hl' hw hw' hN hN' (Nat.le_refl _) (by omega) hb (hide (Or.inl rfl))).mono ?_
  rintro e w' ⟨⟨b,k,c,zs,h1,h2,h3⟩,h4⟩
  exact ⟨⟨b,k,c,zs,h1,by omega,h3⟩,h4⟩
theorem Own.lim' {w:World} {base:Nat} {a:Option Addr} {n c:Nat} {xs:List Nat} (h:Own w base (.slice a n c) xs):Lim w a xs:=by
 obtain ⟨a',c',e,_,_,hl⟩:=h.lim
 rw [(Value.slice.inj e).1]; exact hl
theorem dig_len {zs:List Nat} {k:Nat} (hw:Pl.Wf zs) (hN:Pl.Norm zs) (h:Pl.val zs < 10 ^ k) (hk:k≤65536):zs.length≤7282:=by
 have h1:10 ^ k≤10 ^ (9 * (k / 9+1)):=Nat.pow_le_pow_right (by decide) (by omega)
 have h2:10 ^ (9 * (k / 9+1))≤4294967296 ^ (k / 9+1):=by
  rw [Nat.pow_mul]; exact Nat.pow_le_pow_left (by decide) _
 have:=(Pl.val_le_len hw hN (k / 9+1)).2 (Nat.lt_of_lt_of_le h (Nat.le_trans h1 h2))
 omega
theorem dval_take_lt {ds:List Nat} (h:Pl.Dig ds) (k:Nat) (hk:k≤ds.length):Pl.dval (ds.take k) 0 < 10 ^ k:=by
 have:=Pl.dval_lt (dig_take h k)
 rwa [List.length_take,Nat.min_eq_left hk] at this
theorem dval_take_add (ds:List Nat) (k j:Nat) (h:k+j≤ds.length):Pl.dval (ds.take (k+j)) 0 = Pl.dval (ds.take k) 0 * 10 ^ j+Pl.dval ((ds.drop k).take j) 0:=by
 rw [List.take_add,dval_append,List.length_take,List.length_drop,Nat.min_eq_left (by omega)]
def RInv (s:ByteArray) (w1:World) (k:Nat) (v6:Value) (wr:World):Prop:=
 ∃ zs:List Nat,Own wr w1.heap.size v6 zs∧Pl.Wf zs∧Pl.Norm zs∧Pl.val zs = Pl.dval ((digs s).take k) 0∧Below w1.heap.size w1 wr
theorem rparse_in (s:ByteArray) (w:World) (h0:0 < s.size) (hmx:s.size≤65536) :
  Calls Try.prog 78 #[.string s] w fun e w'=>ParseAns s w.heap.size e w'∧Below w.heap.size w w':=by
 have h0i:((s.size:Int) == 0) = false:=by rw [beq_eq_false_iff_ne]; omega
 go_enter Try.func78,Try.ntmps78
 go_wp2
 go_loopw [5] (fun i wr=>∃ k:Nat,k≤s.size∧i = .int .i64 (k:Int)∧Hid (AllD s k)∧w.alloc (.cells #[.slice none 0 0] 60) = wr) (fun i _=>s.size - (intOf i).toNat)
 case atStart=>exact ⟨0,Nat.zero_le _,rfl,hide (fun j _ hj=>absurd hj (Nat.not_lt_zero _)),rfl⟩
 case round=>
  obtain ⟨k,hk,rfl,HA,rfl⟩:=hrel
  by_cases hks:k < s.size
  ·obtain ⟨x,hx⟩:∃ x,x = (s[k]'hks).toNat:=⟨_,rfl⟩
   have hx1:x < 256:=by rw [hx]; exact (s[k]'hks).toNat_lt
   have hsx:(s[k]'hks).toNat = x:=hx.symm
   have HX:=hide hx
   clear hx
   by_cases hb:48≤x∧x≤57
   ·obtain ⟨hb1,hb2⟩:=hb
    have hb1i:(48:Int)≤(x:Int):=by omega
    have hb2i:(x:Int)≤57:=by omega
    have HN:Hid (AllD s (k+1)):=hide (fun j hj hjk=>by
     by_cases hjk2:j < k
     ·exact unhide HA j hj hjk2
     ·have:j = k:=by omega
      subst this
      rw [hsx]
      exact ⟨hb1,hb2⟩)
    go_wp2
    go_roundw
    case rel=>exact ⟨k+1,by omega,by go_num,unhide HN,trivial⟩
    case measure=>simp [intOf]; omega
   ·have HBad:Hid (¬ (48≤(s[k]'hks).toNat∧(s[k]'hks).toNat≤57)):=hide (by rw [hsx]; exact hb)
    by_cases hb1:x < 48
    ·have hb1i:(x:Int) < 48:=by omega
     clear hb
     go_wp2
     exact bodyPost_ret (v:=.tuple #[.agg #[.slice none 0 0],.int .i64 (k:Int),.int .i64 12]) (by simp [results,Try.results78,go_sem]) rfl ⟨Or.inr (Or.inr (Or.inl ⟨k,hks,hmx,unhide HA,unhide HBad,rfl⟩)),gr_alloc _ _⟩
    ·have hb1i:(48:Int)≤(x:Int):=by omega
     have hb2i:(57:Int) < (x:Int):=by omega
     clear hb hb1
     go_wp2
     exact bodyPost_ret (v:=.tuple #[.agg #[.slice none 0 0],.int .i64 (k:Int),.int .i64 12]) (by simp [results,Try.results78,go_sem]) rfl ⟨Or.inr (Or.inr (Or.inl ⟨k,hks,hmx,unhide HA,unhide HBad,rfl⟩)),gr_alloc _ _⟩
  ·have hke:k = s.size:=by omega
   subst hke
   clear hk hks
   have hDS:=(unhide HA).digS
   have HDS:=hide hDS
   clear hDS
   go_wp2
   obtain ⟨W1,hW1⟩:∃ W1,w.alloc (.cells #[.slice none 0 0] 60) = W1:=⟨_,rfl⟩
   have HW1:=hide hW1
   rw [hW1]
   clear hW1
   go_loopw [6,7] (fun s6 s7 wr=>∃ k:Nat,k≤s.size∧s7 = .int .i64 (k:Int)∧Hid (RInv s W1 k s6 wr)) (fun _ s7 _=>s.size - (intOf s7).toNat)
   case atStart=>exact ⟨0,Nat.zero_le _,rfl,hide ⟨[],Or.inl ⟨rfl,rfl⟩,Pl.wf_nil,Pl.norm_nil,rfl,Below.refl _ _⟩⟩
   case round=>
    obtain ⟨k,hk,rfl,HI⟩:=hrel
    by_cases hks:k < s.size
    ·obtain ⟨wo,hwo⟩:∃ wo,wr = wo:=⟨_,rfl⟩
     obtain ⟨zs,i1,i2,i3,i4,i5⟩:=unhide HI
     obtain ⟨va,vn,vc,rfl⟩:=i1.slice
     have hzl:=i1.len
     have hz7:vn≤7282:=by
      have hd:=unhide HDS
      rw [← hzl]
      exact dig_len i2 i3 (by rw [i4]; exact dval_take_lt hd.2.1 k (by have:=hd.1; omega)) (by omega)
     rw [hwo] at i1 i5
     have HZ:=hide (And.intro i1 (And.intro i2 (And.intro i4 (And.intro i5 hzl))))
     clear i1 i2 i3 i4 i5 hzl HI
     go_wp2
     go_loopw [7,8,9,10] (fun s7 s8 s9 s10 wr2=>∃ (j v p q:Nat),j≤9∧Hid (q = k+j)∧q≤s.size∧s10 = .int .i64 (j:Int)∧s7 = .int .i64 (q:Int)∧s8 = .int .u32 (v:Int)∧s9 = .int .u32 (p:Int)∧Hid (p = 10 ^ j∧v = Pl.dval (((digs s).drop k).take j) 0)∧wo = wr2) (fun _ _ _ s10 _=>9 - (intOf s10).toNat)
     case atStart=>exact ⟨0,0,1,k,by omega,hide rfl,hk,rfl,rfl,rfl,rfl,hide ⟨rfl,rfl⟩,rfl⟩
     case round=>
      obtain ⟨j,v,p,q,hj9,HQ,hqs,rfl,rfl,rfl,rfl,HV,rfl⟩:=hrel
      have hqe:=unhide HQ
      obtain ⟨d1,d2,d3⟩:=unhide HDS
      obtain ⟨hp,hv⟩:=unhide HV
      have hdl:((digs s).drop k).length = s.size - k:=by rw [List.length_drop]; omega
      have hvl:=dval_take_lt (fun d hd=>d2 d (List.mem_of_mem_drop hd)) j (ds:=(digs s).drop k) (by omega)
      rw [← hv,← hp] at hvl
      by_cases hgo:j < 9∧q < s.size
      ·obtain ⟨hj8,hks2⟩:=hgo
       have hp8:p≤100000000:=by rw [hp]; exact Nat.pow_le_pow_right (show 0 < 10 by decide) (show j≤8 by omega)
       obtain ⟨d,hd⟩:∃ d,d = (digs s)[q]?.getD 0:=⟨_,rfl⟩
       have hd9:d < 10:=by
        rw [hd,List.getElem?_eq_getElem (by omega)]
        exact d2 _ (List.getElem_mem _)
       have hsx:(s[q]'hks2).toNat = 48+d:=by rw [hd]; exact d3 q hks2
       have hv2:10 * v+d = Pl.dval (((digs s).drop k).take (j+1)) 0:=by
        rw [dval_snoc _ j (by omega),← hv,List.getElem?_drop,← hqe,← hd]; omega
       have HV2:Hid (10 * p = 10 ^ (j+1)∧10 * v+d = Pl.dval (((digs s).drop k).take (j+1)) 0):=hide ⟨by rw [hp,Nat.pow_succ,Nat.mul_comm],hv2⟩
       have hvn:v < 100000000:=by omega
       have HQ2:Hid (q+1 = k+(j+1)):=hide (by omega)
       clear d1 d2 d3 hp hv hdl hvl hd hv2 HV hqe HQ hqs hj9 hk
       go_wp2
       go_roundw
       case rel=>exact ⟨j+1,10 * v+d,10 * p,q+1,by omega,HQ2,by omega,by go_num,by go_num,by go_num,by go_num,HV2,trivial⟩
       case measure=>simp [intOf]; omega
      ·have hex:j = 9∨q = s.size:=by omega
       have hjp:0 < j:=by omega
       have hp9:p≤1000000000:=by rw [hp]; exact pow_nine hj9
       have hv32:v < 4294967296:=by omega
       obtain ⟨z1,z2,z3,z4,z5⟩:=unhide HZ
       have lim1:Lim wo va zs:=z1.lim'
       have HTM:=hide (rtimes_lim va vn vc wo.heap.size 0 1 1 zs [p] (wo.alloc (.cells #[.int .u32 (p:Int)] 95)) z5 rfl (by omega) (by omega) z2 (Pl.wf_one (by omega)) (lim1.alloc _) (by simp) (fun j hj=>by rw [Nat.zero_add]; exact (row_one wo p).cell j hj))
       have hval:Pl.dval ((digs s).take q) 0 = Pl.val zs * p+v:=by
        rw [hqe,dval_take_add _ k j (by omega),hp,hv,z3]
       have HVAL:=hide hval
       have HB0:=hide (gr_trans z4 (gr_alloc wo (.cells #[.int .u32 (p:Int)] 95)))
       have HMS:Hid (k < q):=hide (by omega)
       have HS:Hid (q≤s.size):=hide hqs
       have hcase:(j = 9)∨(j < 9∧q = s.size):=by omega
       clear z1 z2 z3 z4 z5 lim1 hval hp hv hvl hdl d1 d2 d3 hgo hqe hk hj9 hqs HV HQ HZ hp9 hjp hex
       rcases hcase with rfl|⟨hj8,rfl⟩
       all_goals (
        go_wp2_with fail
        refine (unhide HTM).mono ?_
        rintro e w2 ⟨⟨tn,ts,rfl,t1,t2,t3,t4,t5,t6⟩,hb2⟩
        simp only [World.size_alloc] at t3
        have hR2:=row_one w2 v
        have HB2:=hide (gr_trans (gr_trans (unhide HB0) hb2) (gr_alloc w2 (.cells #[.int .u32 (v:Int)] 95)))
        have HT2:=hide (And.intro (t3.kept (gr_alloc w2 (.cells #[.int .u32 (v:Int)] 95))) (And.intro t4 (And.intro t5 (And.intro t6 t2))))
        have HTR:=hide (rtrim_at w2.heap.size 0 1 1 [v] (w2.alloc (.cells #[.int .u32 (v:Int)] 95)) rfl (by omega) (by omega) (fun j hj=>by rw [Nat.zero_add]; exact hR2.cell j hj))
        have HR2:=hide hR2
        clear hR2 t2 t3 t4 t5 t6 hb2 HB0 HTM
        go_wp2_with fail
        refine (unhide HTR).mono ?_
        rintro e w3 ⟨hw3,l2,hl2,z0,z1,rfl⟩
        have HRT:=hide (rtrim_row (cap:=1) (unhide HR2) (Nat.le_refl _) (by simp) (Pl.wf_one hv32) hl2 (by simp) (by simpa using hl2) z0 z1)
        have hl1:l2≤1:=by simpa using hl2
        have HPL:=hide (show Calls Try.prog 82 #[.slice (some ⟨_,0,none⟩) tn (vn+1),.slice (some ⟨w2.heap.size,0,none⟩) l2 1] (w2.alloc (.cells #[.int .u32 (v:Int)] 95)) _ from
         rplus_max _ _ tn l2 (vn+1) 1 ts ([v].take l2) (w2.alloc (.cells #[.int .u32 (v:Int)] 95)) (unhide HT2).2.2.2.2 (unhide HRT).1 (unhide HT2).1.lim' (unhide HRT).2.1.lim' (unhide HT2).2.1 (unhide HRT).2.2.1 (unhide HT2).2.2.1 (unhide HRT).2.2.2.1 (by omega) (by omega))
        subst hw3
        clear z0 z1 hl2 HTR HR2
        go_wp2_with fail
        refine (unhide HPL).mono ?_
        rintro e w4 ⟨⟨pa,pn,pc,ps,rfl,p1,p2,p3,p4,p5,p6⟩,hb4⟩
        have HI2:Hid (RInv s W1 _ (.slice pa pn pc) w4):=hide (by
         obtain ⟨g1,g2,g3,g4,g5⟩:=unhide HT2
         obtain ⟨r1,r2,r3,r4,r5⟩:=unhide HRT
         refine ⟨ps,p3.mono (unhide HB2).size,p4,p5,?_,gr_trans (unhide HB2) hb4⟩
         rw [p6,r5,g4,Pl.val_one,Pl.val_one]
         exact (unhide HVAL).symm)
        clear p1 p2 p3 p4 p5 p6 hb4 HPL HT2 HRT HB2 HVAL
        go_wp2
        go_roundw
        case rel=>exact ⟨_,unhide HS,rfl,HI2⟩
        case measure=>have:=unhide HMS; simp [intOf]; omega)
    ·obtain rfl:k = s.size:=by omega
     obtain ⟨zs,i1,i2,i3,i4,i5⟩:=unhide HI
     obtain ⟨va,vn,vc,rfl⟩:=i1.slice
     have hzl:=i1.len
     have hdd:=unhide HDS
     have hz7:vn≤7282:=by
      rw [← hzl]
      exact dig_len i2 i3 (by rw [i4]; exact dval_take_lt hdd.2.1 _ (by have:=hdd.1; omega)) (by omega)
     rw [List.take_of_length_le (by have:=hdd.1; omega)] at i4
     have hW:=unhide HW1
     have hsz:w.heap.size≤W1.heap.size:=by rw [← hW]; simp
     have hby:Box wr w.heap.size (.slice none 0 0):=by
      have:=Box.made w (.slice none 0 0)
      rw [hW] at this
      exact this.kept i5
     have HM:=hide (show Mine (wr.alloc (.cells #[.slice va vn vc] 60)) w.heap.size va vn vc (Pl.dval (digs s) 0) from ⟨zs,hzl,(i1.mono hsz).kept (gr_alloc _ _),i2,i3,i4,by omega⟩)
     have hby2:=hby.alloc (.cells #[.slice va vn vc] 60)
     have hbx:Below w.heap.size w wr:=by
      have h1:=gr_alloc w (.cells #[.slice none 0 0] 60)
      rw [hW] at h1
      exact gr_trans h1 i5
     have HB:=hide (gr_trans hbx (gr_alloc wr (.cells #[.slice va vn vc] 60)))
     have HBY:=hide hby2
     clear hk hks i1 i2 i3 i4 i5 hzl hdd hW hsz hby hby2 hbx HI
     go_wp2_with fail
     refine (rnat_any _ va vn vc _ rfl).mono ?_
     rintro e w3 ⟨rfl,rfl⟩
     have hcx:=(unhide HBY).cell
     have hfx:=(unhide HBY).frozen
     go_wp2
     exact bodyPost_ret (v:=.tuple #[.agg #[.slice va vn vc],.int .i64 0,.int .i64 0]) (by simp [results,Try.results78,go_sem,hcx]) rfl
      ⟨Or.inr (Or.inr (Or.inr ⟨_,vn,vc,h0,hmx,unhide HA,rfl,(unhide HM).setBox (unhide HBY) _⟩)),(unhide HB).setCell (Nat.le_refl _) _⟩
theorem rparse_any (s:ByteArray) (w:World) (hm:s.size≤9223372036854775807) :
  Calls Try.prog 78 #[.string s] w fun e w'=>ParseAns s w.heap.size e w'∧Below w.heap.size w w':=by
 by_cases h0:s.size = 0
 ·exact rparse_none s w h0
 ·by_cases hl:s.size≤65536
  ·exact rparse_in s w (by omega) hl
  ·exact rparse_long s w (by omega) hm
theorem less_step {o q p c c' z y x s B:Nat} (h:o+q = p+B * c) (hs:s+y+c = x+4294967296) (hz:z = s % 4294967296) (hc:c'+s / 4294967296 = 1):(o+B * z)+(q+B * y) = (p+B * x)+B * 4294967296 * c':=by
 have e0:z+y+c = x+4294967296 * c':=by omega
 have e1:B * z+B * y+B * c = B * x+B * 4294967296 * c':=by rw [← Nat.mul_add,← Nat.mul_add,e0,Nat.mul_add,Nat.mul_assoc]
 omega
theorem less_end {o q p B c:Nat} (h:o+q = p+B * c) (hc:c≤1) (ho:o < B) (hq:q≤p):o = p - q:=by
 rcases Nat.lt_or_ge 0 c with h0|h0
 ·have:c = 1:=by omega
  subst this
  omega
 ·have:c = 0:=by omega
  subst this
  omega
def LessTo (base N V:Nat) (e:Ending) (w':World):Prop:=
 ∃ a n c zs,e = .returned (.slice a n c)∧n≤N∧zs.length = n∧Own w' base (.slice a n c) zs∧Pl.Wf zs∧Pl.Norm zs∧Pl.val zs = V
theorem rless_list (a a':Option Addr) (n n' cap cap':Nat) (xs ys:List Nat) (w:World) (hn:xs.length = n) (hn':ys.length = n') (hl:Lim w a xs) (hl':Lim w a' ys) (hw:Pl.Wf xs) (hw':Pl.Wf ys) (hnn:n'≤n) (hM:n≤40000) (hle:Hid (Pl.val ys≤Pl.val xs)) :
  Calls Try.prog 84 #[.slice a n cap,.slice a' n' cap'] w fun e w'=>LessTo w.heap.size n (Pl.val xs - Pl.val ys) e w'∧Below w.heap.size w w':=by
 have HLX:=hide (fun (i:Nat) (W:World) (h:Lim W a xs) (hi:i < 9223372036854775808)=>rlimb_any a n cap i xs W hn h hw hi)
 have HLY:=hide (fun (i:Nat) (W:World) (h:Lim W a' ys) (hi:i < 9223372036854775808)=>rlimb_any a' n' cap' i ys W hn' h hw' hi)
 have HL:=hide hl
 have HL':=hide hl'
 have HN:=hide hn
 have HN':=hide hn'
 have HNN:=hide hnn
 clear hl hn hl' hn' hnn
 go_enter Try.func84,Try.ntmps84
 go_wp2
 go_loopw [5,6,7] (fun s3 s4 s5 wr=>∃ (i c:Nat) (zs:List Nat),i≤n∧s5 = .int .i64 (i:Int)∧s4 = .int .u64 (c:Int)∧c≤1∧Hid (Own wr w.heap.size s3 zs∧zs.length = i∧Pl.Wf zs∧Pl.val zs+Pl.val (ys.take i) = Pl.val (xs.take i)+4294967296 ^ i * c∧Below w.heap.size w wr)) (fun _ _ s5 _=>n - (intOf s5).toNat)
 case atStart=>exact ⟨0,0,[],Nat.zero_le _,rfl,rfl,by omega,hide ⟨Or.inl ⟨rfl,rfl⟩,rfl,Pl.wf_nil,by simp [Pl.val],gr_refl _⟩⟩
 case round=>
  obtain ⟨i,c,zs,hi,rfl,rfl,hc,HS⟩:=hrel
  by_cases hin:i < n
  ·obtain ⟨h1,h2,h3,h4,h5⟩:=unhide HS
   obtain ⟨va,vn,vc,rfl⟩:=h1.slice
   have hvn:=h1.len
   obtain ⟨x,hxx⟩:∃ x,x = xs[i]?.getD 0:=⟨_,rfl⟩
   obtain ⟨y,hyy⟩:∃ y,y = ys[i]?.getD 0:=⟨_,rfl⟩
   have hx1:x < 4294967296:=by rw [hxx]; exact Pl.wf_at hw _
   have hy1:y < 4294967296:=by rw [hyy]; exact Pl.wf_at hw' _
   have L1:=unhide HLX i wr ((unhide HL).below h5) (by omega)
   have L2:=unhide HLY i wr ((unhide HL').below h5) (by omega)
   rw [← hxx] at L1
   rw [← hyy] at L2
   have HL1:=hide L1
   have HL2:=hide L2
   obtain ⟨s,hs⟩:∃ s,s+y+c = x+4294967296:=⟨x+4294967296 - y - c,by omega⟩
   have hs1:s < 8589934592:=by omega
   obtain ⟨v',W',hrun,hO,hap,_⟩:=append_own1 wr w.heap.size vn vc (s % 4294967296) va zs h1 h5.size (by omega)
   have hval:Pl.val (zs ++ [s % 4294967296])+Pl.val (ys.take (i+1)) = Pl.val (xs.take (i+1))+4294967296 ^ (i+1) * (1 - s / 4294967296):=by
    rw [Pl.val_append,Pl.val_one,h2,Nat.pow_succ,Pl.val_take_any xs i,Pl.val_take_any ys i,← hxx,← hyy]
    exact less_step h4 hs rfl (by omega)
   have hB':Below w.heap.size w W':=h5.trans ⟨hap.os,hap.tape,hap.output,hap.size,fun q hq=>hap.block q (by have:=h5.size; omega) (fun e=>by have:=h1.lt q e.symm; omega)⟩
   have hsi:(x:Int)+4294967296 - (y:Int) - (c:Int) = (s:Int):=by omega
   have hs2:s / 4294967296≤1:=by omega
   have HS':=hide (show Own W' w.heap.size v' (zs ++ [s % 4294967296])∧(zs ++ [s % 4294967296]).length = i+1∧Pl.Wf (zs ++ [s % 4294967296])∧_∧Below w.heap.size w W' from ⟨hO,by simp [h2],Pl.wf_append h3 (Pl.wf_one (Nat.mod_lt _ (by decide))),hval,hB'⟩)
   have e2:(s:Int) % 4294967296 = ((s % 4294967296:Nat):Int):=by omega
   rw [← e2] at hrun
   have HSI:=hide hsi
   have HRUN:=hide hrun
   clear h1 h2 h3 h4 h5 hxx hyy L1 L2 hO hap hval hB' hs HS hrun hvn e2 hsi
   go_wp2_with fail
   refine (unhide HL1).mono ?_
   rintro e w1 ⟨rfl,rfl⟩
   go_wp2_with fail
   refine (unhide HL2).mono ?_
   rintro e w1 ⟨rfl,rfl⟩
   go_wp2_with (at_builtin; rw [unhide HSI]; refine wpList_append_run rfl (.tmp 25) (.tmp 28) 58 rfl (unhide HRUN) ?_)
   go_roundw
   case rel=>exact ⟨i+1,1 - s / 4294967296,zs ++ [s % 4294967296],by omega,by go_num,by go_num,by omega,HS'⟩
   case measure=>simp [intOf]; omega
  ·obtain ⟨h1,h2,h3,h4,h5⟩:=unhide HS
   obtain ⟨va,vn,vc,rfl⟩:=h1.slice
   obtain rfl:i = n:=by omega
   have hxn:=unhide HN
   have hyn:=unhide HN'
   have hnn:=unhide HNN
   rw [List.take_of_length_le (by omega),List.take_of_length_le (by omega)] at h4
   have hlt:=Pl.val_lt h3
   rw [h2] at hlt
   have hv:=less_end h4 hc hlt (unhide hle)
   have HT:=hide (rtrim_own w.heap.size _ zs wr h1 h3)
   have HV:=hide hv
   have HB:=hide h5
   have HZ:=hide h2
   clear h1 h2 h3 h4 h5 hv hlt hxn hyn hnn HS
   go_wp2_with fail
   refine (unhide HT).mono ?_
   rintro e w1 ⟨rfl,a2,l,c2,ys2,rfl,t1,t2,t3,t4,t5,t6⟩
   have HM:=hide (show LessTo w.heap.size i (Pl.val xs - Pl.val ys) (.returned (.slice a2 l c2)) wr from ⟨a2,l,c2,ys2,rfl,by have:=unhide HZ; omega,t2,t3,t4,t5,t6.trans (unhide HV)⟩)
   clear t1 t2 t3 t4 t5 t6 HT
   go_wp2
   go_ret
   exact ⟨unhide HM,unhide HB⟩
theorem rcmp_all (a a':Option Addr) (n n' cap cap' m m':Nat) (w:World) (h:Num w a n m) (h':Num w a' n' m') :
  Calls Try.prog 80 #[.slice a n cap,.slice a' n' cap'] w fun e w'=>e = .returned (.int .i64 (cmpI m m'))∧Below w.heap.size w w':=by
 by_cases he:n = n'
 ·subst he
  exact rcmp_any a a' n cap cap' m m' w h h'
 ·obtain ⟨xs,hn,hl,hw,hN,hv,hb⟩:=h
  obtain ⟨ys,hn',hl',hw',hN',hv',hb'⟩:=h'
  have hne:((n:Int) != (n':Int)) = true:=by simp; omega
  have hne2:((n:Int) == (n':Int)) = false:=by simp; omega
  by_cases hlt:n < n'
  ·have hc:cmpI m m' = -1:=by rw [← hv,← hv']; exact cmpI_lt (cmp_len hw hN' (by omega))
   rw [hc]
   clear hc hv hv' hn hn' hl hl' hw hw' hN hN' he
   go_enter Try.func80,Try.ntmps80
   go_wp2
   go_ret
   exact ⟨rfl,gr_refl _⟩
  ·have hlt2:n' < n:=by omega
   have hc:cmpI m m' = 1:=by rw [← hv,← hv']; exact cmpI_gt (cmp_len hw' hN (by omega))
   rw [hc]
   clear hc hv hv' hn hn' hl hl' hw hw' hN hN' he hlt
   go_enter Try.func80,Try.ntmps80
   go_wp2
   go_ret
   exact ⟨rfl,gr_refl _⟩
theorem over_len {zs:List Nat} (hw:Pl.Wf zs) (hN:Pl.Norm zs) (h:16384 < zs.length):Over (Pl.val zs):=⟨by
 have:=Pl.val_le_len hw hN Pl.top
 rw [Pl.top_eq] at this ⊢
 omega⟩
theorem rfits_any (base:Nat) (a0:Option Addr) (n0 c0:Nat) (zs:List Nat) (w:World) (h:Own w base (.slice a0 n0 c0) zs) (hw:Pl.Wf zs) (hn:n0≤100000) :
  Calls Try.prog 81 #[.slice a0 n0 c0] w fun e w'=>Ans w' base e (Pl.val zs)∧Below w.heap.size w w':=by
 have hln:=h.len
 have HT:=hide (fun o:Obj=>rtrim_own base (.slice a0 n0 c0) zs (w.alloc o) (h.kept (gr_alloc w o)) hw)
 have hbx:=Box.made w (.slice none 0 0)
 have HBX:=hide hbx
 clear h hbx
 go_enter Try.func81,Try.ntmps81
 go_wp2_with fail
 refine (unhide HT _).mono ?_
 rintro e w1 ⟨rfl,a,n,c,ys,rfl,t1,t2,t3,t4,t5,t6⟩
 have hn2:n≤100000:=by omega
 by_cases h16:n≤16384
 ·have h16i:(n:Int)≤16384:=by omega
  have HG:=hide (gr_alloc w (.cells #[.slice none 0 0] 60))
  generalize w.alloc (.cells #[.slice none 0 0] 60) = W0 at *
  have HM:=hide (show Mine (W0.alloc (.cells #[.slice a n c] 60)) base a n c (Pl.val zs) from ⟨ys,t2,t3.kept (gr_alloc _ _),t4,t5,t6,h16⟩)
  have HX:=hide ((unhide HBX).alloc (.cells #[.slice a n c] 60))
  clear t1 t2 t3 t4 t5 t6 HT HBX hln
  go_wp2_with fail
  refine (rnat_any _ a n c _ rfl).mono ?_
  rintro e w3 ⟨rfl,rfl⟩
  have hcx:=(unhide HX).cell
  have hfx:=(unhide HX).frozen
  go_wp2
  exact bodyPost_ret (v:=.tuple #[.agg #[.slice a n c],.int .i64 0]) (by simp [results,Try.results81,go_sem,hcx]) rfl ⟨Or.inl ⟨_,_,_,rfl,(unhide HM).setBox (unhide HX) _⟩,(gr_trans (unhide HG) (gr_alloc _ _)).setCell (Nat.le_refl _) _⟩
 ·have h16i:(16384:Int) < (n:Int):=by omega
  have HO:=hide (t6▸over_len t4 t5 (by omega))
  have hcx:=(unhide HBX).cell
  have hfx:=(unhide HBX).frozen
  clear t1 t2 t3 t4 t5 t6 HT hln h16
  go_wp2
  exact bodyPost_ret (v:=.tuple #[.agg #[.slice none 0 0],.int .i64 4]) (by simp [results,Try.results81,go_sem]) rfl ⟨Or.inr ⟨rfl,unhide HO⟩,gr_alloc _ _⟩
theorem rtwo_num (a a':Option Addr) (n n' cap cap' m m':Nat) (w:World) (h:Num w a n m) (h':Num w a' n' m') :
  Calls Try.prog 79 #[.agg #[.slice a n cap],.agg #[.slice a' n' cap']] w fun e w'=>e = .returned (.int .i64 0)∧Below w.heap.size w w':=by
 obtain ⟨zs,kn,kl,kw,kN,kv,kb⟩:=h
 obtain ⟨ys,kn',kl',kw',kN',kv',kb'⟩:=h'
 have:=rtwo_any a a' cap cap' zs ys w (by omega) (by omega) kl kl'
 rw [kn,kn',chk2_ok (chk_ok (by omega) kN) (chk_ok (by omega) kN')] at this
 exact this
theorem rcmpApi_any (a a':Option Addr) (n n' cap cap' m m':Nat) (w:World) (h:Num w a n m) (h':Num w a' n' m') :
  Calls Try.prog 53 #[.agg #[.slice a n cap],.agg #[.slice a' n' cap']] w fun e w'=>e = .returned (.tuple #[.int .i64 (cmpI m m'),.int .i64 0])∧Below w.heap.size w w':=by
 have HK:=hide (fun (o1 o2:Obj)=>rtwo_num a a' n n' cap cap' m m' ((w.alloc o1).alloc o2) ((h.alloc _).alloc _) ((h'.alloc _).alloc _))
 have H:=hide (And.intro h h')
 clear h h'
 go_enter Try.func53,Try.ntmps53
 go_wp2_with fail
 refine (unhide HK _ _).mono ?_
 rintro e w1 ⟨rfl,hb1⟩
 obtain ⟨hc1,hf1⟩:=bcell hb1
 have HB:=hide (gr_trans (gr_trans (gr_alloc w (.cells #[.slice a n cap] 60)) (gr_alloc _ (.cells #[.slice a' n' cap'] 60))) hb1)
 clear hb1
 go_wp2_with fail
 refine (rcmp_all a a' n n' cap cap' m m' w1 ((unhide H).1.kept (unhide HB)) ((unhide H).2.kept (unhide HB))).mono ?_
 rintro e w2 ⟨rfl,hb2⟩
 go_wp2
 go_ret2
 exact ⟨rfl,gr_trans (unhide HB) hb2⟩
structure TwoR (w W:World) (a a':Option Addr) (n n' cap cap':Nat):Prop where
 ba:Box W w.heap.size (.slice a n cap)
 bb:Box W (w.heap.size+1) (.slice a' n' cap')
 br:Box W (w.heap.size+2) (.slice none 0 0)
 bel:Below w.heap.size w W
theorem TwoR.kept {w W W':World} {a a':Option Addr} {n n' cap cap':Nat} (h:TwoR w W a a' n n' cap cap') (hb:Below W.heap.size W W'):TwoR w W' a a' n n' cap cap':=⟨h.ba.kept hb,h.bb.kept hb,h.br.kept hb,gr_trans h.bel hb⟩
theorem TwoR.made (w:World) (a a':Option Addr) (n n' cap cap':Nat):TwoR w (((w.alloc (.cells #[.slice a n cap] 60)).alloc (.cells #[.slice a' n' cap'] 60)).alloc (.cells #[.slice none 0 0] 60)) a a' n n' cap cap':=by
 have h1:=Box.made (w.alloc (.cells #[.slice a n cap] 60)) (.slice a' n' cap')
 have h2:=Box.made ((w.alloc (.cells #[.slice a n cap] 60)).alloc (.cells #[.slice a' n' cap'] 60)) (.slice none 0 0)
 simp only [World.size_alloc] at h1 h2
 exact ⟨((Box.made w _).alloc _).alloc _,h1.alloc _,h2,gr_trans (gr_trans (gr_alloc _ _) (gr_alloc _ _)) (gr_alloc _ _)⟩
theorem radd_any (a a':Option Addr) (n n' cap cap' m m':Nat) (w:World) (h:Num w a n m) (h':Num w a' n' m') :
  Calls Try.prog 54 #[.agg #[.slice a n cap],.agg #[.slice a' n' cap']] w fun e w'=>Ans w' w.heap.size e (m+m')∧Below w.heap.size w w':=by
 have HK:=hide (fun (o1 o2 o3:Obj)=>rtwo_num a a' n n' cap cap' m m' (((w.alloc o1).alloc o2).alloc o3) (((h.alloc _).alloc _).alloc _) (((h'.alloc _).alloc _).alloc _))
 have H:=hide (And.intro h h')
 clear h h'
 go_enter Try.func54,Try.ntmps54
 go_wp2_with fail
 refine (unhide HK _ _ _).mono ?_
 rintro e w1 ⟨rfl,hb1⟩
 have HT:=hide ((TwoR.made w a a' n n' cap cap').kept hb1)
 have hs1:=(unhide HT).bel.size
 have hca:=(unhide HT).ba.cell
 have hcb:=(unhide HT).bb.cell
 have HP:Hid (Calls Try.prog 82 #[.slice a n cap,.slice a' n' cap'] w1 fun e w'=>PlusTo w1.heap.size (n+n') (m+m') e w'∧Below w1.heap.size w1 w'):=hide (by
  obtain ⟨xs,hn,hl,hw,hN,hv,hb⟩:=(unhide H).1.kept (unhide HT).bel
  obtain ⟨ys,hn',hl',hw',hN',hv',hb'⟩:=(unhide H).2.kept (unhide HT).bel
  rw [← hv,← hv']
  exact rplus_max a a' n n' cap cap' xs ys w1 hn hn' hl hl' hw hw' hN hN' (by omega) (by omega))
 have hbn:n≤16384∧n'≤16384:=by
  obtain ⟨xs,_,_,_,_,_,hb⟩:=(unhide H).1
  obtain ⟨ys,_,_,_,_,_,hb'⟩:=(unhide H).2
  exact ⟨hb,hb'⟩
 obtain ⟨hbn1,hbn2⟩:=hbn
 clear hb1 HK
 go_wp2_with fail
 refine (unhide HP).mono ?_
 rintro e w2 ⟨⟨pa,pn,pc,ps,rfl,p1,p2,p3,p4,p5,p6⟩,hb2⟩
 have HF:=hide (rfits_any w1.heap.size pa pn pc ps w2 p3 p4 (by omega))
 rw [p6] at HF
 have HT2:=hide ((unhide HT).kept hb2)
 clear p1 p2 p3 p4 p5 p6 hb2 HP hca hcb HT
 go_wp2_with fail
 refine (unhide HF).mono ?_
 rintro e w3 ⟨hA,hb3⟩
 have HT3:=hide ((unhide HT2).kept hb3)
 have hcx:=(unhide HT3).br.cell
 have hfx:=(unhide HT3).br.frozen
 rcases hA with ⟨fa,fn,fc,rfl,hM⟩|⟨rfl,hO⟩
 ·have HM:=hide (hM.mono (base':=w.heap.size) hs1)
  clear hM hb3 HF HT2
  go_wp2
  exact bodyPost_ret (v:=.tuple #[.agg #[.slice fa fn fc],.int .i64 0]) (by simp [results,Try.results54,go_sem,hcx]) rfl ⟨Or.inl ⟨_,_,_,rfl,(unhide HM).setBox (unhide HT3).br _⟩,(unhide HT3).bel.setCell (Nat.le_add_right _ 2) _⟩
 ·have HO:=hide hO
  clear hO hb3 HF HT2
  go_wp2
  exact bodyPost_ret (v:=.tuple #[.agg #[.slice none 0 0],.int .i64 4]) (by simp [results,Try.results54,go_sem,hcx]) rfl ⟨Or.inr ⟨rfl,unhide HO⟩,(unhide HT3).bel.setCell (Nat.le_add_right _ 2) _⟩
theorem rtimes_lnil (a a':Option Addr) (cap cap' ny:Nat) (w:World) (hy:ny≤40000) :
  Calls Try.prog 95 #[.slice a 0 cap,.slice a' ny cap'] w
   fun e w'=>TimesTo w.heap.size ny 0 e w'∧Below w.heap.size w w':=by
 have hmk:=make_limbs ((0:Int)+(ny:Int)) ny (by omega) (by omega)
 rw [Int.zero_add] at hmk
 have HR:=hide (Row.made w (List.replicate ny 0))
 go_enter Try.func95,Try.ntmps95
 go_wp2
 clear hmk
 refine wp_loop_rounds 1 ?_
 rw [rounds_succ]
 go_wp2_with fail
 refine (rtrim_at w.heap.size 0 ny ny (List.replicate ny 0) _ (by simp) (Nat.le_refl _) (by omega) (fun j hj=>by rw [Nat.zero_add]; exact (unhide HR).cell j hj)).mono ?_
 rintro e w1 ⟨rfl,n,hn,h0,h1,rfl⟩
 have hn2:n≤ny:=by simpa using hn
 have HT:=hide (rtrim_row (cap:=ny) (unhide HR) (Nat.le_refl _) (by simp; omega) (Pl.wf_replicate ny) hn (by simp) hn2 h0 h1)
 clear h0 h1 hn
 go_wp2
 go_ret
 obtain ⟨t1,t2,t3,t4,t5⟩:=unhide HT
 exact ⟨⟨n,_,rfl,hn2,t1,t2,t3,t4,t5.trans (Pl.val_replicate ny)⟩,gr_alloc _ _⟩
theorem rep_set (n i:Nat):(List.replicate n 0).set i 0 = List.replicate n 0:=by
 apply List.ext_getElem
 ·simp
 ·intro j h1 h2
  rw [List.getElem_set]
  split
  ·simp
  ·rfl
theorem rtimes_rnil (a a':Option Addr) (cap cap' nx:Nat) (w:World) (hx:nx≤40000) :
  Calls Try.prog 95 #[.slice a nx cap,.slice a' 0 cap'] w
   fun e w'=>TimesTo w.heap.size nx 0 e w'∧Below w.heap.size w w':=by
 have hmk:=make_limbs ((nx:Int)+(0:Int)) nx (by omega) (by omega)
 rw [Int.add_zero] at hmk
 have HR:=hide (Row.made w (List.replicate nx 0))
 go_enter Try.func95,Try.ntmps95
 go_wp2
 clear hmk
 go_loopw [6] (fun s6 wr=>∃ i:Nat,i≤nx∧s6 = .int .i64 (i:Int)∧Row wr w.heap.size (List.replicate nx 0)∧Below w.heap.size w wr) (fun s6 _=>nx - (intOf s6).toNat)
 case atStart=>exact ⟨0,Nat.zero_le _,rfl,unhide HR,gr_alloc _ _⟩
 case round=>
  obtain ⟨i,hi,rfl,hr,hbel⟩:=hrel
  by_cases hin:i < nx
  ·have hc:=hr.cell i (by simpa using hin)
   have hf:=hr.frozen i
   have hs:=hr.set i 0 (by simpa using hin)
   rw [rep_set] at hs
   have HS:=hide (And.intro hs (hbel.setCell (p:=⟨w.heap.size,i,none⟩) (Nat.le_refl _) (.int .u32 ((0:Nat):Int))))
   clear hr hbel hs hi
   go_wp2
   refine wp_loop_rounds 1 ?_
   rw [rounds_succ]
   go_wp2
   go_roundw
   case rel=>exact ⟨i+1,by omega,by go_num,(unhide HS).1,(unhide HS).2⟩
   case measure=>simp [intOf]; omega
  ·have hie:i = nx:=by omega
   subst hie
   clear hin hi
   go_wp2_with fail
   refine (rtrim_at w.heap.size 0 i i (List.replicate i 0) _ (by simp) (Nat.le_refl _) (by omega) (fun j hj=>by rw [Nat.zero_add]; exact hr.cell j hj)).mono ?_
   rintro e w1 ⟨rfl,n,hn,h0,h1,rfl⟩
   have hn2:n≤i:=by simpa using hn
   have HT:=hide (rtrim_row (cap:=i) hr (Nat.le_refl _) (by simp; omega) (Pl.wf_replicate i) hn (by simp) hn2 h0 h1)
   clear h0 h1 hn
   go_wp2
   go_ret
   obtain ⟨t1,t2,t3,t4,t5⟩:=unhide HT
   exact ⟨⟨n,_,rfl,hn2,t1,t2,t3,t4,t5.trans (Pl.val_replicate i)⟩,hbel⟩
theorem rtimes_all (a a':Option Addr) (n n' cap cap':Nat) (xs ys:List Nat) (w:World) (hn:xs.length = n) (hn':ys.length = n') (hb:n≤40000) (hb':n'≤40000) (hw:Pl.Wf xs) (hw':Pl.Wf ys) (hl:Lim w a xs) (hl':Lim w a' ys) :
  Calls Try.prog 95 #[.slice a n cap,.slice a' n' cap'] w fun e w'=>TimesTo w.heap.size (n+n') (Pl.val xs * Pl.val ys) e w'∧Below w.heap.size w w':=by
 rcases hl.parts with h|⟨hp,b,off,rfl,hlt,hc⟩
 ·subst h
  obtain rfl:n = 0:=by rw [← hn]; rfl
  have:=rtimes_lnil a a' cap cap' n' w hb'
  simpa [Pl.val] using this
 ·rcases hl'.parts with h|⟨hp',b',off',rfl,hlt',hc'⟩
  ·subst h
   obtain rfl:n' = 0:=by rw [← hn']; rfl
   have:=rtimes_rnil (some ⟨b,off,none⟩) a' cap cap' n w hb
   simpa [Pl.val] using this
  ·exact rtimes_some b off cap b' off' cap' n n' xs ys w (hide hn) (hide hn') hb hb' hw hw' hlt hlt' (hide (fun j hj=>hc j (by omega))) (hide (fun j hj=>hc' j (by omega)))
theorem rmul_any (a a':Option Addr) (n n' cap cap' m m':Nat) (w:World) (h:Num w a n m) (h':Num w a' n' m') :
  Calls Try.prog 60 #[.agg #[.slice a n cap],.agg #[.slice a' n' cap']] w fun e w'=>Ans w' w.heap.size e (m * m')∧Below w.heap.size w w':=by
 have HK:=hide (fun (o1 o2 o3:Obj)=>rtwo_num a a' n n' cap cap' m m' (((w.alloc o1).alloc o2).alloc o3) (((h.alloc _).alloc _).alloc _) (((h'.alloc _).alloc _).alloc _))
 have H:=hide (And.intro h h')
 clear h h'
 go_enter Try.func60,Try.ntmps60
 go_wp2_with fail
 refine (unhide HK _ _ _).mono ?_
 rintro e w1 ⟨rfl,hb1⟩
 have HT:=hide ((TwoR.made w a a' n n' cap cap').kept hb1)
 have hs1:=(unhide HT).bel.size
 have hca:=(unhide HT).ba.cell
 have hcb:=(unhide HT).bb.cell
 have HP:Hid (Calls Try.prog 95 #[.slice a n cap,.slice a' n' cap'] w1 fun e w'=>TimesTo w1.heap.size (n+n') (m * m') e w'∧Below w1.heap.size w1 w'):=hide (by
  obtain ⟨xs,hn,hl,hw,hN,hv,hb⟩:=(unhide H).1.kept (unhide HT).bel
  obtain ⟨ys,hn',hl',hw',hN',hv',hb'⟩:=(unhide H).2.kept (unhide HT).bel
  rw [← hv,← hv']
  exact rtimes_all a a' n n' cap cap' xs ys w1 hn hn' (by omega) (by omega) hw hw' hl hl')
 have HOV:Hid (16385 < n+n'→Over (m * m')):=hide (fun hgt=>by
  obtain ⟨xs,hn,hl,hw,hN,hv,hb⟩:=(unhide H).1
  obtain ⟨ys,hn',hl',hw',hN',hv',hb'⟩:=(unhide H).2
  rw [← hv,← hv']
  exact pow_le_mul hN hN' (by omega) (by omega) (by omega))
 have hbn:n≤16384∧n'≤16384:=by
  obtain ⟨xs,_,_,_,_,_,hb⟩:=(unhide H).1
  obtain ⟨ys,_,_,_,_,_,hb'⟩:=(unhide H).2
  exact ⟨hb,hb'⟩
 obtain ⟨hbn1,hbn2⟩:=hbn
 clear hb1 HK
 by_cases hbig:16385 < n+n'
 ·have hbi:(16385:Int) < (n:Int)+(n':Int):=by omega
  have HO:=hide (unhide HOV hbig)
  have hcx:=(unhide HT).br.cell
  have hfx:=(unhide HT).br.frozen
  clear hbig HP HOV
  go_wp2
  exact bodyPost_ret (v:=.tuple #[.agg #[.slice none 0 0],.int .i64 4]) (by simp [results,Try.results60,go_sem,hcx]) rfl ⟨Or.inr ⟨rfl,unhide HO⟩,(unhide HT).bel.setCell (Nat.le_add_right _ 2) _⟩
 ·have hbi:(n:Int)+(n':Int)≤16385:=by omega
  clear HOV hbig
  go_wp2_with fail
  refine (unhide HP).mono ?_
  rintro e w2 ⟨⟨pn,ps,rfl,p1,p2,p3,p4,p5,p6⟩,hb2⟩
  have HF:=hide (rfits_any w1.heap.size _ pn (n+n') ps w2 p3 p4 (by omega))
  rw [p6] at HF
  have HT2:=hide ((unhide HT).kept hb2)
  clear p1 p2 p3 p4 p5 p6 hb2 HP hca hcb HT
  go_wp2_with fail
  refine (unhide HF).mono ?_
  rintro e w3 ⟨hA,hb3⟩
  have HT3:=hide ((unhide HT2).kept hb3)
  have hcx:=(unhide HT3).br.cell
  have hfx:=(unhide HT3).br.frozen
  rcases hA with ⟨fa,fn,fc,rfl,hM⟩|⟨rfl,hO⟩
  ·have HM:=hide (hM.mono (base':=w.heap.size) hs1)
   clear hM hb3 HF HT2
   go_wp2
   exact bodyPost_ret (v:=.tuple #[.agg #[.slice fa fn fc],.int .i64 0]) (by simp [results,Try.results60,go_sem,hcx]) rfl ⟨Or.inl ⟨_,_,_,rfl,(unhide HM).setBox (unhide HT3).br _⟩,(unhide HT3).bel.setCell (Nat.le_add_right _ 2) _⟩
  ·have HO:=hide hO
   clear hO hb3 HF HT2
   go_wp2
   exact bodyPost_ret (v:=.tuple #[.agg #[.slice none 0 0],.int .i64 4]) (by simp [results,Try.results60,go_sem,hcx]) rfl ⟨Or.inr ⟨rfl,unhide HO⟩,(unhide HT3).bel.setCell (Nat.le_add_right _ 2) _⟩
theorem rsub_any (a a':Option Addr) (n n' cap cap' m m':Nat) (w:World) (h:Num w a n m) (h':Num w a' n' m') :
  Calls Try.prog 55 #[.agg #[.slice a n cap],.agg #[.slice a' n' cap']] w fun e w'=>SubAns w' w.heap.size e m m'∧Below w.heap.size w w':=by
 have HK:=hide (fun (o1 o2 o3:Obj)=>rtwo_num a a' n n' cap cap' m m' (((w.alloc o1).alloc o2).alloc o3) (((h.alloc _).alloc _).alloc _) (((h'.alloc _).alloc _).alloc _))
 have H:=hide (And.intro h h')
 clear h h'
 go_enter Try.func55,Try.ntmps55
 go_wp2_with fail
 refine (unhide HK _ _ _).mono ?_
 rintro e w1 ⟨rfl,hb1⟩
 have HT:=hide ((TwoR.made w a a' n n' cap cap').kept hb1)
 have hs1:=(unhide HT).bel.size
 have hca:=(unhide HT).ba.cell
 have hcb:=(unhide HT).bb.cell
 clear hb1 HK
 go_wp2_with fail
 refine (rcmp_all a a' n n' cap cap' m m' w1 ((unhide H).1.kept (unhide HT).bel) ((unhide H).2.kept (unhide HT).bel)).mono ?_
 rintro e w2 ⟨rfl,hb2⟩
 have HT2:=hide ((unhide HT).kept hb2)
 have hcx:=(unhide HT2).br.cell
 have hfx:=(unhide HT2).br.frozen
 clear hb2 HT hca hcb
 by_cases hlt:m < m'
 ·rw [cmpI_lt hlt]
  have HLT:=hide hlt
  clear hlt
  go_wp2
  exact bodyPost_ret (v:=.tuple #[.agg #[.slice none 0 0],.bool false,.int .i64 0]) (by simp [results,Try.results55,go_sem,hcx]) rfl ⟨Or.inl ⟨unhide HLT,rfl⟩,(unhide HT2).bel.setCell (Nat.le_add_right _ 2) _⟩
 ·have hcg:=cmp_ge (show m'≤m by omega)
  have HP:Hid (Calls Try.prog 84 #[.slice a n cap,.slice a' n' cap'] w2 fun e w'=>LessTo w2.heap.size n (m - m') e w'∧Below w2.heap.size w2 w'):=hide (by
   obtain ⟨xs,hn,hl,hw,hN,hv,hb⟩:=(unhide H).1.kept (unhide HT2).bel
   obtain ⟨ys,hn',hl',hw',hN',hv',hb'⟩:=(unhide H).2.kept (unhide HT2).bel
   rw [← hv,← hv']
   refine rless_list a a' n n' cap cap' xs ys w2 hn hn' hl hl' hw hw' ?_ (by omega) (hide (by omega))
   by_cases hnn:n'≤n
   ·exact hnn
   ·have:=cmp_len hw hN' (show xs.length < ys.length by omega)
    omega)
  have hbn:n≤16384:=by
   obtain ⟨xs,_,_,_,_,_,hb⟩:=(unhide H).1
   exact hb
  have HLE:=hide (show m'≤m by omega)
  have hca:=(unhide HT2).ba.cell
  have hcb:=(unhide HT2).bb.cell
  have hs2:=(unhide HT2).bel.size
  clear hlt hcx hfx
  go_wp2_with fail
  refine (unhide HP).mono ?_
  rintro e w3 ⟨⟨pa,pn,pc,ps,rfl,p1,p2,p3,p4,p5,p6⟩,hb3⟩
  have HM:=hide (show Mine (w3.alloc (.cells #[.slice pa pn pc] 60)) w.heap.size pa pn pc (m - m') from ⟨ps,p2,(p3.mono hs2).kept (gr_alloc _ _),p4,p5,p6,by omega⟩)
  have HT3:=hide (((unhide HT2).kept hb3).kept (gr_alloc w3 (.cells #[.slice pa pn pc] 60)))
  clear p1 p2 p3 p4 p5 p6 hb3 HP hca hcb HT2
  go_wp2_with fail
  refine (rnat_any _ pa pn pc _ rfl).mono ?_
  rintro e w4 ⟨rfl,rfl⟩
  have hcx:=(unhide HT3).br.cell
  have hfx:=(unhide HT3).br.frozen
  go_wp2
  exact bodyPost_ret (v:=.tuple #[.agg #[.slice pa pn pc],.bool true,.int .i64 0]) (by simp [results,Try.results55,go_sem,hcx]) rfl ⟨Or.inr ⟨unhide HLE,_,_,_,rfl,(unhide HM).setBox (unhide HT3).br _⟩,(unhide HT3).bel.setCell (Nat.le_add_right _ 2) _⟩
def bl (ds:List Nat):List Value:=ds.map (fun z:Nat=>Value.int .u8 (z:Int))
def BOwn (w:World) (base:Nat) (v:Value) (ds:List Nat):Prop:=w.ownsRow base 5 1 v ds.length (bl ds)
theorem BOwn.nil (w:World) (base:Nat):BOwn w base (.slice none 0 0) []:=World.ownsRow_nil _ _ _ _
theorem BOwn.kept {w w':World} {base:Nat} {v:Value} {ds:List Nat} (h:BOwn w base v ds) (hb:Below w.heap.size w w'):BOwn w' base v ds:=own_below h hb
theorem BOwn.slice {w:World} {base:Nat} {v:Value} {ds:List Nat} (h:BOwn w base v ds):∃ a n c,v = .slice a n c∧ds.length = n:=by
 obtain ⟨_,⟨h1,h2⟩|⟨g,c,cur,hv,_⟩⟩:=h
 ·exact ⟨none,0,0,h1,h2⟩
 ·exact ⟨_,_,_,hv,rfl⟩
theorem BOwn.open {w:World} {base:Nat} {a:Option Addr} {n c:Nat} {ds:List Nat} (h:BOwn w base (.slice a n c) ds) (hp:0 < ds.length) :
  ∃ g,a = some ⟨g,0,none⟩∧base≤g∧g < w.heap.size∧∀ j,j < ds.length→w.cell? ⟨g,j,none⟩ = some (.int .u8 ((ds[j]?.getD 0:Nat):Int)):=by
 have hlt:=h.lt
 obtain ⟨_,⟨h1,h2⟩|⟨g,c,cur,hv,hg,hh,h1,h2,h3,h4⟩⟩:=h
 ·omega
 ·injection hv with e1 e2 e3
  refine ⟨g,e1,hg,(hlt g (by rw [e1]; rfl)).2,fun j hj=>?_⟩
  rw [cell_of_row w g j cur _ _ hh]
  have e:cur.toList[j]? = (bl ds)[j]?:=by rw [← h4,List.getElem?_take,if_pos (by omega)]
  rw [← Array.getElem?_toList,e]
  simp [bl,hj]
theorem append_byte (w:World) (base z:Nat) (v:Value) (ds:List Nat) (h:BOwn w base v ds) (hb:base≤w.heap.size) (hn:ds.length≤1000000) :
  ∃ v' w',(Builtin.append_ #[47,47] 47 #[v,.slice (some ⟨w.heap.size,0,none⟩) 1 1]).run Try.prog (w.alloc (.cells #[.int .u8 (z:Int)] 5)) = .ok v' w' ∧
   BOwn w' base v' (ds ++ [z])∧Ap w w' v v':=by
 obtain ⟨i0,hi,hz0,hz1,hz2⟩:=info_parts Try.info_byte
 have hnew:=cell_one_new w (.int .u8 (z:Int)) 5
 have hone:∀ u∈[Value.int .u8 (z:Int)],u.oneCell' = true:=fun u hu=>by simp at hu; subst hu; rfl
 have hold:∀ k,k < w.heap.size→(w.alloc (.cells #[.int .u8 (z:Int)] 5)).heap[k]? = w.heap[k]?:=fun k hk=>(gr_alloc w _).block k hk
 have hsz:(w.alloc (.cells #[.int .u8 (z:Int)] 5)).heap.size = w.heap.size+1:=by simp
 obtain ⟨v',w',hr,hrow,hgr,_,how⟩:=run_append_own_at (P:=Try.prog) (w:=w.alloc (.cells #[.int .u8 (z:Int)] 5)) base 47 47 5 i0 (.int .u8 0) 1 1 Try.under_bytes hi hz0 hz1 hz2 rfl (by decide) v ds.length (bl ds) (h.kept (gr_alloc _ _)) ⟨w.heap.size,0,none⟩ 1 1 [.int .u8 (z:Int)] rfl hnew hone (by unfold maxLen; omega) (by omega) (by omega)
 refine ⟨v',w',hr,?_,hgr.os,hgr.tape,hgr.output,by have:=hgr.size; omega,fun k hk hne=>(hgr.block k (by omega) hne).trans (hold k hk),?_⟩
 ·unfold BOwn
  rw [List.length_append]
  simpa [bl] using hrow
 ·rcases how with h|h
  ·exact Or.inl h
  ·exact Or.inr ⟨_,h,by omega⟩
theorem rtext_group {V Q G k p M DE D:Nat} (hV:V = Q * 1000000000+G) (h:V * 10 ^ p+D = M) (hk:k = 9∨Q = 0) (hE:DE = G * 10 ^ p+D):Q * 10 ^ (p+k)+DE = M:=by
 rw [hE,← h,hV]
 rcases hk with rfl|rfl
 ·rw [Nat.pow_add,Nat.add_mul,Nat.mul_assoc,Nat.mul_comm (10 ^ p) (10 ^ 9),Nat.add_assoc]
 ·simp
theorem take_set (X:List Nat) (k p:Nat) (hk:k < p) (hl:X.length = p):(X.take k ++ List.replicate (p - k) 0).set k (X[k]?.getD 0) = X.take (k+1) ++ List.replicate (p - (k+1)) 0:=by
 have e:p - k = p - (k+1)+1:=by omega
 rw [e,List.replicate_succ,List.set_append_right _ _ (by rw [List.length_take]; omega),List.length_take,Nat.min_eq_left (by omega),Nat.sub_self,Pl.take_snoc X k (by omega)]
 simp
theorem rev_at (D:List Nat) (k p:Nat) (hl:D.length = p) (hk:k < p):((D.reverse.map (48+·))[p - 1 - k]?.getD 0) = (D.map (48+·))[k]?.getD 0:=by
 rw [List.getElem?_map,List.getElem?_map,List.getElem?_reverse (by omega),hl,show p - 1 - (p - 1 - k) = k by omega]
def TInv (w:World) (M:Nat) (g:Nat) (s5 s6:Value) (wr:World):Prop:=
 ∃ (a:Option Addr) (l c:Nat) (cur D:List Nat),s6 = .slice a l c∧cur.length = l∧l≤16384∧Lim wr a cur∧Pl.Wf cur∧Pl.Norm cur∧Pl.val cur = g∧BOwn wr w.heap.size s5 (D.reverse.map (48+·))∧Pl.Dig D ∧
  g * 10 ^ D.length+Pl.dval D 0 = M∧(g = 0→D[0]?.getD 0≠0)∧Below w.heap.size w wr
def GInv (w:World) (q:Value) (qs D:List Nat) (G k G':Nat) (s5:Value) (wr:World):Prop:=
 ∃ E:List Nat,E.length = k∧Pl.Dig E∧G' * 10 ^ k+Pl.dval E 0 = G∧BOwn wr w.heap.size s5 ((E ++ D).reverse.map (48+·))∧Own wr w.heap.size q qs∧(qs.length = 0→G' = 0→E[0]?.getD 0≠0)∧Below w.heap.size w wr
theorem GInv.next {w wr W':World} {q s5 v':Value} {qs D:List Nat} {G k G':Nat} {E:List Nat} (h1:E.length = k) (h2:Pl.Dig E) (h3:G' * 10 ^ k+Pl.dval E 0 = G) (h5:Own wr w.heap.size q qs) (h7:Below w.heap.size w wr) (hB:BOwn wr w.heap.size s5 ((E ++ D).reverse.map (48+·)))
  (hO:BOwn W' w.heap.size v' ((E ++ D).reverse.map (48+·) ++ [48+G' % 10])) (hap:Ap wr W' s5 v') (hg:0 < qs.length∨0 < G'):GInv w q qs D G (k+1) (G' / 10) v' W':=by
 refine ⟨G' % 10 :: E,by simp [h1],?_,?_,?_,?_,?_,?_⟩
 ·intro d hd
  rcases List.mem_cons.1 hd with rfl|hd
  ·exact Nat.mod_lt _ (by decide)
  ·exact h2 d hd
 ·rw [digit_step E h1 rfl]; exact h3
 ·have e:((G' % 10 :: E) ++ D).reverse.map (48+·) = (E ++ D).reverse.map (48+·) ++ [48+G' % 10]:=by simp
  rw [e]; exact hO
 ·refine h5.keep (fun k hk hkv=>hap.block k hk (fun e=>?_))
  obtain ⟨cu,hcu⟩:=h5.type k hkv
  exact row_type hB e.symm hcu (by decide)
 ·intro hq0 hz
  simp
  omega
 ·exact h7.trans ⟨hap.os,hap.tape,hap.output,hap.size,fun q hq=>hap.block q (by have:=h7.size; omega) (fun e=>by have:=World.ownsRow.lt hB q e.symm; omega)⟩
theorem GInv.zero {w wr:World} {q s5:Value} {qs D:List Nat} {G k G' kq:Nat} (h:GInv w q qs D G k G' s5 wr) (hG:G < 1000000000) (hk:k = 9∨(kq = 0∧G' = 0)):G' = 0:=by
 rcases hk with hk|hk
 ·obtain ⟨E,_,_,g3,_⟩:=h
  rw [hk,show (10:Nat) ^ 9 = 1000000000 by decide] at g3
  omega
 ·exact hk.2
theorem GInv.done {w wr:World} {a:Option Addr} {kq l:Nat} {qs D:List Nat} {V G k M:Nat} {s5:Value} (h:GInv w (.slice a kq l) qs D G k 0 s5 wr) (hk:k = 9∨qs.length = 0) (hG:G = V % 1000000000) (hqv:Pl.val qs = V / 1000000000) (hqw:Pl.Wf qs) (hqN:Pl.Norm qs)
  (hD:Pl.Dig D) (hval:V * 10 ^ D.length+Pl.dval D 0 = M) (hq:qs.length = kq) (h16:kq≤16384):TInv w M (Pl.val qs) s5 (.slice a kq l) wr:=by
 obtain ⟨E,g1,g2,g3,g4,g5,g6,g7⟩:=h
 obtain ⟨a',c',he,_,_,hlim⟩:=g5.lim
 injection he with e1 e2 e3
 subst e1
 rw [Nat.zero_mul,Nat.zero_add] at g3
 refine ⟨a,kq,l,qs,E ++ D,rfl,hq,h16,hlim,hqw,hqN,rfl,g4,?_,?_,?_,g7⟩
 ·intro d hd
  rcases List.mem_append.1 hd with hd|hd
  ·exact g2 d hd
  ·exact hD d hd
 ·rw [List.length_append,Nat.add_comm E.length,g1]
  refine rtext_group (V:=V) (G:=G) (D:=Pl.dval D 0) (by omega) hval ?_ (by rw [dval_append,g3])
  rcases hk with hk|hk
  ·exact Or.inl hk
  ·right
   rw [List.length_eq_zero_iff.1 hk]; rfl
 ·intro hz
  have hq0:qs.length = 0:=by rw [Pl.norm_zero hqN hz]; rfl
  have h6:=g6 hq0 rfl
  have hE:0 < E.length:=by
   cases E with
   | nil=>simp at h6
   | cons e E=>simp
  rw [List.getElem?_append_left hE]
  exact h6
theorem lead_pos {D:List Nat} (h:D[0]?.getD 0≠0):0 < D.length:=by
 cases D with
 | nil=>simp at h
 | cons e E=>simp
theorem lead_bound {D:List Nat} {M n:Nat} (h:D[0]?.getD 0≠0) (hv:Pl.dval D 0 = M) (hM:M < 4294967296 ^ n):D.length≤10 * n:=by
 cases D with
 | nil=>simp
 | cons e E=>
  have h1:=Pl.lead_low (d:=e) (ds:=E) (by simpa using h)
  have:=groups_le (v:=1) hM (by omega) (p:=E.length) (by omega)
  simp
  omega
theorem rtext_some (b off cap n:Nat) (xs:List Nat) (w:World) (hn:Hid (xs.length = n)) (hp:0 < n) (hlen:n≤16384) (hw:Pl.Wf xs) (hN:Pl.Norm xs)
  (hc:∀ j,j < n→w.cell? ⟨b,off+j,none⟩ = some (.int .u32 ((xs[j]?.getD 0:Nat):Int))) :
  Calls Try.prog 56 #[.agg #[.slice (some ⟨b,off,none⟩) n cap]] w
   fun e w'=>∃ s:ByteArray,e = .returned (.tuple #[.string s,.int .i64 0])∧Says s (Pl.val xs)∧Below w.heap.size w w':=by
 have hl:Lim w (some ⟨b,off,none⟩) xs:=Or.inr ⟨b,off,rfl,fun j hj=>hc j (by rw [← unhide hn]; exact hj)⟩
 have hck:=rcheck_any (some ⟨b,off,none⟩) cap xs (w.alloc (.cells #[.slice (some ⟨b,off,none⟩) n cap] 60)) (by rw [unhide hn]; omega) (hl.alloc _)
 rw [unhide hn,chk_ok (by rw [unhide hn]; exact hlen) hN] at hck
 have HK:=hide hck
 have HL:=hide hl
 have hpos:0 < Pl.val xs:=by
  have h1:=Pl.norm_lower hN (by rw [unhide hn]; exact hp)
  have h2:0 < 4294967296 ^ (xs.length - 1):=Nat.pow_pos (by decide)
  omega
 have hM:Pl.val xs < 4294967296 ^ n:=by rw [← unhide hn]; exact Pl.val_lt hw
 have HMv:=hide hM
 have HP:=hide hpos
 clear hck hl hc hM hpos
 have hn0:((n:Int) == 0) = false:=by simp; omega
 go_enter Try.func56,Try.ntmps56
 go_wp2_with fail
 refine (unhide HK).mono ?_
 rintro e w1 ⟨rfl,hb1⟩
 have hbx:=(Box.made w (.slice (some ⟨b,off,none⟩) n cap)).kept hb1
 have hcx:=hbx.cell
 have HB1:=hide (gr_trans (gr_alloc w (.cells #[.slice (some ⟨b,off,none⟩) n cap] 60)) hb1)
 clear hb1 hbx HK
 go_wp2_with fail
 clear hcx
 obtain ⟨M,hMM⟩:∃ M,M = Pl.val xs:=⟨_,rfl⟩
 go_loopg [5,6] M (fun g s5 s6 wr=>TInv w M g s5 s6 wr)
 case atStart=>
  exact ⟨_,n,cap,xs,[],rfl,unhide hn,hlen,(unhide HL).below (unhide HB1),hw,hN,hMM.symm,BOwn.nil _ _,fun d hd=>by simp at hd,by simp [Pl.dval],fun h=>by have:=unhide HP; omega,unhide HB1⟩
 case round=>
  obtain ⟨a,l,c,cur,D,rfl,hcl,hl16,hlim,hcw,hcN,hcv,hback,hD,hval,hlead,hbel⟩:=hrel
  by_cases hg0:gk = 0
  ·subst hg0
   have hcn:cur = []:=Pl.norm_zero hcN hcv
   have hl0:l = 0:=by rw [← hcl,hcn]; rfl
   subst hl0
   obtain ⟨va,vm,vc,rfl,hvm⟩:=hback.slice
   have hDl:D.length = vm:=by simpa using hvm
   have hD0:=hlead rfl
   have hDv:Pl.dval D 0 = M:=by simpa using hval
   have hDb:=lead_bound hD0 hDv (by rw [hMM]; exact unhide HMv)
   have hDp:=lead_pos hD0
   obtain ⟨gb,rfl,hgb,hgb2,hbc⟩:=hback.open (by simp; omega)
   rw [List.length_map,List.length_reverse,hDl] at hbc
   have hvp:0 < vm:=by omega
   have hvb:vm≤163840:=by omega
   have hmk:=make_bytes (vm:Int) vm rfl (by omega)
   have HBC:=hide hbc
   have HD:=hide (And.intro hD (And.intro hD0 (And.intro hDv hDl)))
   have HBL:=hide hbel
   clear hbc hD hD0 hDv hDl hDb hDp hbel hback hvm hval hlead hcn hcv hcN hcw hlim hcl
   go_wp2
   clear hmk
   have HR0:Hid (BRow (wr.alloc (.cells (bc (List.replicate vm 0)) 5)) wr.heap.size ((D.map (48+·)).take 0 ++ List.replicate (vm - 0) 0)):=hide (by simpa using BRow.made wr (List.replicate vm 0))
   obtain ⟨go,hgo⟩:∃ go,wr.heap.size = go:=⟨_,rfl⟩
   have HB2:=hide (gr_trans (unhide HBL) (gr_alloc wr (.cells (bc (List.replicate vm 0)) 5)))
   have HBC2:Hid (∀ j,j < vm→(wr.alloc (.cells (bc (List.replicate vm 0)) 5)).cell? ⟨gb,j,none⟩ = some (.int .u8 (((D.reverse.map (48+·))[j]?.getD 0:Nat):Int))):=hide (fun j hj=>((gr_alloc wr _).cell (by exact hgb2)).trans (unhide HBC j hj))
   have hge:w.heap.size≤go:=by rw [← hgo]; exact (unhide HBL).size
   rw [hgo] at HR0
   rw [hgo] at hgb2
   simp only [hgo]
   clear HBC HBL
   go_loopw [11] (fun s11 wr2=>∃ k:Nat,k≤vm∧s11 = .int .i64 (k:Int)∧Hid (BRow wr2 go ((D.map (48+·)).take k ++ List.replicate (vm - k) 0)∧(∀ j,j < vm→wr2.cell? ⟨gb,j,none⟩ = some (.int .u8 (((D.reverse.map (48+·))[j]?.getD 0:Nat):Int)))∧Below w.heap.size w wr2)) (fun s11 _=>vm - (intOf s11).toNat)
   case atStart=>exact ⟨0,Nat.zero_le _,rfl,hide ⟨unhide HR0,unhide HBC2,unhide HB2⟩⟩
   case round=>
    clear HR0 HBC2 HB2
    obtain ⟨k,hk,rfl,HK⟩:=hrel
    obtain ⟨r1,r2,r3⟩:=unhide HK
    obtain ⟨d1,d2,d3,d4⟩:=unhide HD
    by_cases hkv:k < vm
    ·obtain ⟨z,hz⟩:∃ z,z = (D.map (48+·))[k]?.getD 0:=⟨_,rfl⟩
     have hz1:z < 256:=by
      rw [hz,List.getElem?_map,List.getElem?_eq_getElem (by omega)]
      have:=d1 _ (List.getElem_mem (l:=D) (n:=k) (by omega))
      simp
      omega
     have hcr:wr.cell? ⟨gb,vm - 1 - k,none⟩ = some (.int .u8 (z:Int)):=by rw [r2 _ (by omega),rev_at D k vm d4 hkv,hz]
     have hcs:=r1.cell k (by simp; omega)
     have hfs:=r1.frozen k
     have hset:=r1.set k z
     rw [hz,take_set _ _ _ hkv (by simpa using d4),← hz] at hset
     have HS:=hide (show BRow (wr.setCell ⟨go,k,none⟩ (.int .u8 (z:Int))) go _∧(∀ j,j < vm→(wr.setCell ⟨go,k,none⟩ (.int .u8 (z:Int))).cell? ⟨gb,j,none⟩ = some (.int .u8 (((D.reverse.map (48+·))[j]?.getD 0:Nat):Int)))∧Below w.heap.size w (wr.setCell ⟨go,k,none⟩ (.int .u8 (z:Int))) from
      ⟨hset,fun j hj=>by rw [World.cell?_of_block (w:=wr) (heap_setCell_other wr _ gb _ (by simp; omega))]; exact r2 j hj,r3.setCell hge _⟩)
     have hge0:gb≠go:=by omega
     clear r1 r2 r3 d1 d2 d3 d4 hz hset HK
     go_wp2
     go_roundw
     case rel=>exact ⟨k+1,by omega,by go_num,HS⟩
     case measure=>simp [intOf]; omega
    ·obtain rfl:k = vm:=by omega
     have hcv:=text_bytes wr go 0 0 k D (by simpa [List.take_of_length_le (show (D.map (48+·)).length≤k by simp; omega)] using r1) d1 (by omega) (by omega)
     rw [Nat.add_zero,Nat.sub_zero,List.drop_zero] at hcv
     generalize hs:(⟨(chars D).toArray⟩:ByteArray) = st at *
     have HSY:Hid (Says st (Pl.val xs)):=by
      refine hide ⟨D,by rw [← hs],d1,⟨?_,Or.inl d2⟩,by rw [d3,hMM]⟩
      intro e
      rw [e] at d2
      simp at d2
     have HR3:=hide r3
     clear r1 r2 r3 d1 d2 d3 d4 HK hs
     go_wp2
     go_ret2
     exact ⟨st,rfl,unhide HSY,unhide HR3⟩
  ·have hgp:0 < gk:=by omega
   rcases hlim.parts with hx|⟨hp',b',off',rfl,hlt',hc'⟩
   ·rw [hx] at hcv; simp [Pl.val] at hcv; omega
   ·have hlp:0 < l:=by omega
    have hp10:D.length < 10 * n:=groups_le (unhide HMv) hgp (by rw [← hMM]; omega)
    have HO:=hide (rover_some b' off' c 1000000000 l cur wr (hide hcl) hl16 (by omega) (by omega) hcw hlt' (fun j hj=>hc' j (by omega)))
    have HI:=hide (And.intro hD (And.intro hval (And.intro hback hbel)))
    rw [hcv] at HO
    clear hD hval hback hlead hbel hc' hlt' hlim hcw hcN hcv hcl hp' hg0
    go_wp2_with fail
    refine (unhide HO).mono ?_
    rintro e w2 ⟨⟨kq,qs,rfl,hkq,hql,hqo,hqw,hqN,hqv⟩,hb2⟩
    obtain ⟨G,hG⟩:∃ G,G = gk % 1000000000:=⟨_,rfl⟩
    rw [← hG]
    have hG9:G < 1000000000:=by omega
    have HQ:=hide (And.intro hqw (And.intro hqN (And.intro hqv hG)))
    have HG0:Hid (GInv w (.slice (some ⟨wr.heap.size,0,none⟩) kq l) qs D G 0 G _ w2):=hide (by
     obtain ⟨hD,hval,hback,hbel⟩:=unhide HI
     refine ⟨[],rfl,fun d hd=>by simp at hd,by simp [Pl.dval],by simpa using hback.kept hb2,hqo.mono hbel.size,fun h0 h1=>?_,gr_trans hbel hb2⟩
     have:qs = []:=List.length_eq_zero_iff.1 h0
     rw [this] at hqv
     simp [Pl.val] at hqv
     omega)
    have hkq16:kq≤16384:=by omega
    have HQL:=hide hql
    clear hqo hqw hqN hqv hG hb2 HO hql hkq
    go_wp2_with fail
    go_loopw [5,8,9] (fun s5 s8 s9 wr2=>∃ (k G':Nat),k≤9∧s9 = .int .i64 (k:Int)∧s8 = .int .u64 (G':Int)∧G' < 1000000000∧Hid (GInv w (.slice (some ⟨wr.heap.size,0,none⟩) kq l) qs D G k G' s5 wr2)) (fun _ _ s9 _=>9 - (intOf s9).toNat)
    case atStart=>exact ⟨0,G,by omega,rfl,rfl,hG9,HG0⟩
    case round=>
     clear HG0
     obtain ⟨k,G',hk9,rfl,rfl,hG'9,HGI⟩:=hrel
     by_cases hgo:k < 9∧(0 < kq∨0 < G')
     ·obtain ⟨hk8,hgo2⟩:=hgo
      obtain ⟨E,g1,g2,g3,g4,g5,g6,g7⟩:=unhide HGI
      obtain ⟨va,vm,vc,rfl,hvm⟩:=g4.slice
      obtain ⟨v',W',hrun,hO',hap⟩:=append_byte wr w.heap.size (48+G' % 10) _ _ g4 g7.size (by simp; omega)
      have HNX:=hide (GInv.next (D:=D) g1 g2 g3 g5 g7 g4 hO' hap (by have:=unhide HQL; omega))
      have e2:((48+G' % 10:Nat):Int) = 48+(G':Int) % 10:=by omega
      rw [e2] at hrun
      have HRUN:=hide hrun
      clear g1 g2 g3 g4 g5 g6 g7 hO' hap hrun e2 HGI hvm
      rcases hgo2 with hA|hA
      ·go_wp2_with (at_builtin; refine wpList_append_run rfl (.tmp 44) (.tmp 49) 47 rfl (unhide HRUN) ?_)
       go_roundw
       case rel=>exact ⟨k+1,G' / 10,by omega,by go_num,by go_num,by omega,HNX⟩
       case measure=>simp [intOf]; omega
      ·by_cases hB:kq = 0
       ·subst hB
        go_wp2_with (at_builtin; refine wpList_append_run rfl (.tmp 44) (.tmp 49) 47 rfl (unhide HRUN) ?_)
        go_roundw
        case rel=>exact ⟨k+1,G' / 10,by omega,by go_num,by go_num,by omega,HNX⟩
        case measure=>simp [intOf]; omega
       ·have hB2:0 < kq:=by omega
        go_wp2_with (at_builtin; refine wpList_append_run rfl (.tmp 44) (.tmp 49) 47 rfl (unhide HRUN) ?_)
        go_roundw
        case rel=>exact ⟨k+1,G' / 10,by omega,by go_num,by go_num,by omega,HNX⟩
        case measure=>simp [intOf]; omega
     ·have hex:k = 9∨(kq = 0∧G' = 0):=by omega
      obtain rfl:=(unhide HGI).zero hG9 hex
      obtain ⟨q1,q2,q3,q4⟩:=unhide HQ
      obtain ⟨i1,i2,i3,i4⟩:=unhide HI
      have HTI:=hide ((unhide HGI).done (by have:=unhide HQL; omega) q4 q3 q1 q2 i1 i2 (unhide HQL) hkq16)
      have hms:Pl.val qs < gk:=by omega
      have HMS:=hide hms
      clear q1 q2 q3 q4 i1 i2 i3 i4 HGI hms hgo
      rcases hex with rfl|⟨rfl,_⟩
      ·go_wp2
       go_roundg (Pl.val qs)
       case measure=>exact unhide HMS
       case rel=>exact unhide HTI
      ·by_cases hk9':k = 9
       ·subst hk9'
        go_wp2
        go_roundg (Pl.val qs)
        case measure=>exact unhide HMS
        case rel=>exact unhide HTI
       ·have hk8:k < 9:=by omega
        go_wp2
        go_roundg (Pl.val qs)
        case measure=>exact unhide HMS
        case rel=>exact unhide HTI
theorem rtext_nil (a:Option Addr) (cap:Nat) (w:World) :
  Calls Try.prog 56 #[.agg #[.slice a 0 cap]] w fun e w'=>∃ s:ByteArray,e = .returned (.tuple #[.string s,.int .i64 0])∧Says s 0∧Below w.heap.size w w':=by
 have hck:=rcheck_any a cap [] (w.alloc (.cells #[.slice a 0 cap] 60)) (by simp) (Or.inl rfl)
 rw [chk_ok (by simp) Pl.norm_nil] at hck
 have HK:=hide hck
 clear hck
 go_enter Try.func56,Try.ntmps56
 go_wp2_with fail
 refine (unhide HK).mono ?_
 rintro e w1 ⟨rfl,hb1⟩
 obtain ⟨hc1,hf1⟩:=bcell hb1
 go_wp2
 go_ret2
 exact ⟨_,rfl,says_zero,gr_trans (gr_alloc _ _) hb1⟩
theorem rtext_any (a:Option Addr) (n cap m:Nat) (w:World) (h:Num w a n m) :
  Calls Try.prog 56 #[.agg #[.slice a n cap]] w fun e w'=>∃ s:ByteArray,e = .returned (.tuple #[.string s,.int .i64 0])∧Says s m∧Below w.heap.size w w':=by
 obtain ⟨xs,hn,hl,hw,hN,hv,hb⟩:=h
 rcases hl.parts with hx|⟨hp,b,off,rfl,hlt,hc⟩
 ·subst hx
  have hn0:n = 0:=by rw [← hn]; rfl
  have hm0:m = 0:=by rw [← hv]; rfl
  subst hn0 hm0
  exact rtext_nil a cap w
 ·rw [← hv]
  exact rtext_some b off cap n xs w (hide hn) (by omega) hb hw hN (fun j hj=>hc j (by omega))
end Go.Proofs.Ytpaoacehbomdmaa
