/- Of what DecShiftsRow stands on: DcShiftsLaw. -/
import Derived.Test.YtdbmdhfjmdlihaaDoorPax
import Derived.Test.YtdbmdhfjmdlihaaDoorPay
import Derived.Test.YtdbmdhfjmdlihaaDoorPbh
import Derived.Test.YtdbmdhfjmdlihaaDoorPbj
import Derived.Test.YtdbmdhfjmdlihaaDoorPag
import Derived.Test.YtdbmdhfjmdlihaaDoorPaw
import Derived.Lib.ItoaLen
namespace Go.Proofs.YtdbmdhfjmdlihaaDoor
open Go.RowKit
theorem shift_both (g:Bool) (s:ByteArray) (x n:Int) (hn0:-9223372036854775808≤n) (hn1:n < 9223372036854775808):∃ (g2:Bool) (s2:ByteArray) (x2 e2:Int),
  (∀ W:World,Calls Tryd.prog 9 #[.agg #[.bool g,.string s,.int .i64 x],.int .i64 n] W fun en W'=>en = .returned (.tuple #[.agg #[.bool g2,.string s2,.int .i64 x2],.int .i64 e2])∧Below W.heap.size W W') ∧
  ∀ W:World,Calls Tryd.prog 10 #[.agg #[.bool g,.string s,.int .i64 x],.int .i64 n] W fun en W'=>en = .returned (.tuple #[.agg #[.bool g2,.string s2,.int .i64 x2],.int .i64 e2])∧Below W.heap.size W W':=by
 obtain ⟨e,h,h1,h2⟩:=check_full g s x
 rcases h with h|⟨rfl,hm,hd,hx0,hx1,hz,_⟩
 ·exact ⟨false,⟨#[]⟩,0,e,fun W=>dsh_e W g s x n e h (hide h1),fun W=>rsh_e W g s x n e h (hide h2)⟩
 by_cases h0:s.size = 0
 ·exact ⟨g,s,x,0,fun W=>dsh_z W g s x n h0 (hide h1),fun W=>rsh_z W g s x n h0 (hide h2)⟩
 by_cases c1:2147483648 < n
 ·exact ⟨false,⟨#[]⟩,0,4,fun W=>dsh_go W g s x n _ _ _ _ h0 (hide h1) (hide fun W=>plI_over W g s x n hx0 hx1 (by omega)),fun W=>rsh_hi W g s x n c1 h0 (hide h2)⟩
 by_cases c2:n < -2147483648
 ·exact ⟨false,⟨#[]⟩,0,4,fun W=>dsh_go W g s x n _ _ _ _ h0 (hide h1) (hide fun W=>plI_under W g s x n hx0 hx1 (by omega)),fun W=>rsh_lo W g s x n c2 h0 (hide h2)⟩
 obtain ⟨y,hy⟩:∃ y,x+n = y:=⟨_,rfl⟩
 by_cases c3:1073741824 < y
 ·refine ⟨false,⟨#[]⟩,0,4,fun W=>dsh_go W g s x n _ _ _ _ h0 (hide h1) (hide fun W=>plI_over W g s x n hx0 hx1 (by omega)),fun W=>rsh_far W g s x n y hx0 hx1 (by omega) (by omega) hy h0 (hide h2) (hide fun W=>?_)⟩
  have:=far_is y W
  rw [decide_eq_true c3,Bool.or_true] at this
  exact this
 by_cases c4:y < -1073741824
 ·refine ⟨false,⟨#[]⟩,0,4,fun W=>dsh_go W g s x n _ _ _ _ h0 (hide h1) (hide fun W=>plI_under W g s x n hx0 hx1 (by omega)),fun W=>rsh_far W g s x n y hx0 hx1 (by omega) (by omega) hy h0 (hide h2) (hide fun W=>?_)⟩
  have:=far_is y W
  rw [decide_eq_true c4,Bool.true_or] at this
  exact this
 refine ⟨g,s,y,0,fun W=>dsh_go W g s x n _ _ _ _ h0 (hide h1) (hide fun W=>plI_ok W g s x n y hx0 hx1 (by omega) hy (by omega) (by omega)),fun W=>rsh_ok W g s x n y hx0 hx1 (by omega) (by omega) hy h0 (hide h2) (hide fun W=>?_)⟩
 have:=far_is y W
 rw [decide_eq_false c4,decide_eq_false c3,Bool.or_false] at this
 exact this
theorem signs (g:Bool) (s:ByteArray) (x:Int):∃ sg:ByteArray,sg.size≤1∧(s.size≠0→∀ W:World,Calls Tryd.prog 12 #[.agg #[.bool g,.string s,.int .i64 x]] W fun e W'=>e = .returned (.tuple #[.string sg,.string s])∧Below W.heap.size W W') ∧
  (s.size = 0→∀ W:World,Calls Tryd.prog 12 #[.agg #[.bool g,.string s,.int .i64 x]] W fun e W'=>e = .returned (.tuple #[.string sg,.string ⟨#[48]⟩])∧Below W.heap.size W W') ∧
  ∀ W:World,Calls Tryd.prog 16 #[.bool g] W fun e W'=>e = .returned (.string sg)∧Below W.heap.size W W':=by
 cases g
 ·exact ⟨⟨#[]⟩,by decide,fun h W=>sad_df W s x h,fun h W=>sad_zf W s x h,fun W=>rmn_f W⟩
 ·exact ⟨⟨#[45]⟩,by decide,fun h W=>sad_dt W s x h,fun h W=>sad_zt W s x h,fun W=>rmn_t W⟩
theorem plain_both (g:Bool) (s:ByteArray) (x:Int):∃ (p:ByteArray) (e:Int),
  (∀ W:World,Calls Tryd.prog 4 #[.agg #[.bool g,.string s,.int .i64 x]] W fun en W'=>en = .returned (.tuple #[.string p,.int .i64 e])∧Below W.heap.size W W') ∧
  ∀ W:World,Calls Tryd.prog 5 #[.agg #[.bool g,.string s,.int .i64 x]] W fun en W'=>en = .returned (.tuple #[.string p,.int .i64 e])∧Below W.heap.size W W':=by
 obtain ⟨e,h,h1,h2⟩:=check_full g s x
 rcases h with h|⟨rfl,hm,hd,hx0,hx1,hz,_⟩
 ·exact ⟨⟨#[]⟩,e,fun W=>dpl_e W g s x e h (hide h1),fun W=>rpl_e W g s x e h (hide h2)⟩
 obtain ⟨sg,hsg,hn,h0,hmn⟩:=signs g s x
 obtain ⟨a,ha⟩:∃ a,sg.size = a:=⟨_,rfl⟩
 by_cases hs0:s.size = 0
 ·have hx:=hz hs0
  subst hx
  refine ⟨sg ++ ⟨#[48]⟩,0,fun W=>dpl_pos g s 0 sg ⟨#[48]⟩ a 1 (a+1) W (by decide) (by decide) ha (by omega) (by decide) (by decide) (by decide) rfl (by omega) _ (hide ?_) (hide h1) (hide (h0 hs0)),fun W=>rpl_z W g s 0 sg _ hsg rfl hs0 (hide h2) (hide hmn)⟩
  apply ba_ext
  rw [data_cat2]
  simp
 have HS:=hide (hn hs0)
 by_cases c1:65536 < x
 ·exact ⟨⟨#[]⟩,4,fun W=>dpl_mp W g s x sg s _ _ hx0 hx1 hsg (by omega) hm (by omega) rfl rfl (by omega) (hide h1) HS,fun W=>rpl_far1 W g s x c1 hs0 (hide h2)⟩
 by_cases c2:x < -65536
 ·exact ⟨⟨#[]⟩,4,fun W=>dpl_mn W g s x sg s _ _ hx0 hx1 hsg (by omega) hm (by omega) rfl rfl (by omega) (hide h1) HS,fun W=>rpl_far2 W g s x c2 hs0 (hide h2)⟩
 by_cases hx:0≤x
 ·obtain ⟨k,hk⟩:∃ k:Nat,x = (k:Int):=⟨x.toNat,by omega⟩
  have hus:(s ++ noS k).size = s.size+k:=by rw [ByteArray.size_append,size_noS]
  have hts:(sg ++ (s ++ noS k)).size = a+(s.size+k):=by rw [ByteArray.size_append,hus,ha]
  by_cases c3:a+(s.size+k)≤65536
  ·refine ⟨sg ++ (s ++ noS k),0,fun W=>dpl_pos g s x sg s a (s.size+k) (a+(s.size+k)) W hx (by omega) ha (by omega) (by omega) hm (by omega) rfl c3 _ (hide ?_) (hide h1) HS,fun W=>rpl_po W g s x sg _ _ k hk (by omega) hsg hm rfl (by omega) rfl (by omega) hs0 (hide h2) (hide hmn)⟩
   apply ba_ext
   rw [data_cat2,data_cat2,noS_list,show x.toNat = k by omega,List.toList_toArray,List.append_assoc]
  ·exact ⟨⟨#[]⟩,4,fun W=>dpl_mp W g s x sg s _ _ hx0 hx1 hsg (by omega) hm hx rfl rfl (by omega) (hide h1) HS,fun W=>rpl_pm W g s x sg _ _ k hk (by omega) hsg hm rfl (by omega) rfl (by omega) hs0 (hide h2) (hide hmn)⟩
 ·obtain ⟨j,hj⟩:∃ j:Nat,x = -(j:Int):=⟨(-x).toNat,by omega⟩
  have e46:(⟨#[46]⟩:ByteArray).size = 1:=rfl
  by_cases hjs:j < s.size
  ·obtain ⟨m,hmj⟩:∃ m,m+j = s.size:=⟨s.size - j,by omega⟩
   have s1:(s.extract 0 m).size = m:=by rw [ByteArray.size_extract]; omega
   have s2:(s.extract m s.size).size = j:=by rw [ByteArray.size_extract]; omega
   have s3:(s.extract 0 m ++ ⟨#[46]⟩).size = m+1:=by rw [ByteArray.size_append,s1,e46]
   have s4:(s.extract 0 m ++ ⟨#[46]⟩ ++ s.extract m s.size).size = m+1+j:=by rw [ByteArray.size_append,s3,s2]
   have s5:(sg ++ (s.extract 0 m ++ ⟨#[46]⟩ ++ s.extract m s.size)).size = a+(m+1+j):=by rw [ByteArray.size_append,s4,ha]
   by_cases c3:a+m+1+j≤65536
   ·refine ⟨sg ++ (s.extract 0 m ++ ⟨#[46]⟩ ++ s.extract m s.size),0,fun W=>dpl_in g s x sg s a (a+m+1+j) m j _ _ (1+j) (by omega) (by omega) hj rfl rfl rfl rfl W (by omega) (by omega) ha (by omega) (by omega) hm c3 _ (hide ?_) (hide h1) HS,fun W=>rpl_io W g s x sg _ _ _ _ _ j m hj (by omega) (by omega) hsg hm hjs hmj rfl (by omega) rfl (by omega) rfl (by omega) rfl (by omega) rfl (by omega) hs0 (hide h2) (hide hmn)⟩
    apply ba_ext
    rw [data_cat2,data_cat2,data_cat2,List.toList_toArray]
    simp only [List.append_assoc]
   ·exact ⟨⟨#[]⟩,4,fun W=>dpl_mn W g s x sg s _ _ hx0 hx1 hsg (by omega) hm (by omega) rfl rfl (by omega) (hide h1) HS,fun W=>rpl_im W g s x sg _ _ _ _ _ j m hj (by omega) (by omega) hsg hm hjs hmj rfl (by omega) rfl (by omega) rfl (by omega) rfl (by omega) rfl (by omega) hs0 (hide h2) (hide hmn)⟩
  ·obtain ⟨z,hz2⟩:∃ z,s.size+z = j:=⟨j - s.size,by omega⟩
   obtain ⟨u,hu⟩:∃ u,noS (z+1) ++ s = u:=⟨_,rfl⟩
   have hus:u.size = j+1:=by rw [← hu,ByteArray.size_append,size_noS]; omega
   have hul:u.data.toList = 48 :: (List.replicate z 48 ++ s.data.toList):=by rw [← hu,data_cat2,noS_list,List.replicate_succ]; rfl
   have s1:(u.extract 0 1).size = 1:=by rw [ByteArray.size_extract]; omega
   have s2:(u.extract 1 u.size).size = j:=by rw [ByteArray.size_extract]; omega
   have s3:(u.extract 0 1 ++ ⟨#[46]⟩).size = 2:=by rw [ByteArray.size_append,s1,e46]
   have s4:(u.extract 0 1 ++ ⟨#[46]⟩ ++ u.extract 1 u.size).size = 2+j:=by rw [ByteArray.size_append,s3,s2]
   have s5:(sg ++ (u.extract 0 1 ++ ⟨#[46]⟩ ++ u.extract 1 u.size)).size = a+(2+j):=by rw [ByteArray.size_append,s4,ha]
   by_cases c3:a+2+j≤65536
   ·refine ⟨sg ++ (u.extract 0 1 ++ ⟨#[46]⟩ ++ u.extract 1 u.size),0,fun W=>dpl_out g s x sg s a (a+2+j) j z _ rfl (by omega) hj hz2 rfl W (by omega) (by omega) ha (by omega) (by omega) hm c3 _ (hide ?_) (hide h1) HS,fun W=>rpl_qo W g s x sg u _ _ _ _ _ j 1 (z+1) hj (by omega) (by omega) hsg hm (by omega) (by omega) hu hus (by omega) rfl (by omega) rfl (by omega) rfl (by omega) rfl (by omega) rfl (by omega) hs0 (hide h2) (hide hmn)⟩
    apply ba_ext
    rw [data_cat2,data_cat2,data_cat2,data_ex,data_ex,hul,List.toList_toArray,List.take_of_length_le (l:=List.drop 1 _) (by rw [← hul,List.length_drop,size_list]; omega)]
    simp
   ·exact ⟨⟨#[]⟩,4,fun W=>dpl_mn W g s x sg s _ _ hx0 hx1 hsg (by omega) hm (by omega) rfl rfl (by omega) (hide h1) HS,fun W=>rpl_qm W g s x sg u _ _ _ _ _ j 1 (z+1) hj (by omega) (by omega) hsg hm (by omega) (by omega) hu hus (by omega) rfl (by omega) rfl (by omega) rfl (by omega) rfl (by omega) rfl (by omega) hs0 (hide h2) (hide hmn)⟩
theorem says_dec (m:Nat):Says ⟨(Lib.decDigits m).toArray⟩ m:=by
 have key:∀ m,∃ ds,Lib.decDigits m = chars ds∧Pl.Dig ds∧Pl.Lead ds∧Pl.dval ds 0 = m:=by
  intro m
  induction m using Nat.strongRecOn with
  | ind m ih=>
   by_cases h:m < 10
   ·refine ⟨[m],?_,fun d hd=>by simp at hd; omega,⟨by simp,Or.inr rfl⟩,by show 0 * 10+m = m; omega⟩
    rw [Lib.decDigits,dif_pos h]; rfl
   ·obtain ⟨ds,h0,h1,h2,h3⟩:=ih (m / 10) (by omega)
    refine ⟨ds ++ [m % 10],?_,fun d hd=>?_,⟨by simp,Or.inl ?_⟩,?_⟩
    ·rw [Lib.decDigits,dif_neg h,h0]
     simp [chars]
    ·rw [List.mem_append] at hd
     rcases hd with hd|hd
     ·exact h1 d hd
     ·simp at hd; omega
    ·obtain ⟨h4,h5⟩:=h2
     match ds,h4 with
     | [d],_=>
      have:0 * 10+d = m / 10:=h3
      show d≠0
      omega
     | d :: e :: r,_=>
      rcases h5 with h5|h5
      ·exact h5
      ·simp at h5
    ·rw [dval_append,h3]
     have:Pl.dval [m % 10] 0 = m % 10:=by show 0 * 10+m % 10 = _; omega
     rw [this]; simp; omega
 obtain ⟨ds,h0,h1,h2,h3⟩:=key m
 exact ⟨ds,by rw [List.toList_toArray]; exact h0,h1,h2,h3⟩
theorem whole_is (y:Int) (h0:-2147483648≤y) (h1:y≤2147483648) (W:World):Calls Tryd.prog 19 #[.int .i64 y] W fun e W'=>e = .returned (.string ⟨(Lib.itoa y).toArray⟩)∧Below W.heap.size W W':=by
 obtain ⟨m,hm⟩:∃ m:Nat,m = y.natAbs:=⟨_,rfl⟩
 have hl:(Lib.decDigits m).length≤21:=by
  have:=Lib.itoa_length_le (m:Int) (by omega) (by omega)
  rw [Lib.itoa,if_neg (by omega),Int.toNat_natCast] at this
  exact this
 have hts:(⟨(Lib.decDigits m).toArray⟩:ByteArray).size≤100:=by rw [size_mk]; omega
 have HO:=hide fun W=>rof_any m W (by omega)
 have HT:Hid (∀ (W:World) (a:Option Addr) (n c:Nat),Num W a n m→Calls Tryd.prog 30 #[.agg #[.slice a n c]] W fun en W'=>en = .returned (.tuple #[.string ⟨(Lib.decDigits m).toArray⟩,.int .i64 0])∧Below W.heap.size W W'):=hide fun W a n c h=>(rtext_any a n c m W h).mono fun e W' ⟨t',k1,k2,k3⟩=>⟨by rw [k1,says_eq k2 (says_dec m)],k3⟩
 by_cases hy:y < 0
 ·refine rwh_n W y m ⟨#[45]⟩ _ _ h0 h1 (by omega) hts (by decide) ?_ hy HO HT (hide fun W=>rmn_t W)
  apply ba_ext
  rw [data_cat2,Lib.itoa,if_pos hy,← hm]
  simp
 ·refine rwh_p W y m ⟨#[]⟩ _ _ h0 h1 (by omega) hts (by decide) ?_ HO HT (hide fun W=>rmn_f W)
  apply ba_ext
  rw [data_cat2,Lib.itoa,if_neg hy,show y.toNat = m by omega]
  simp
theorem sci_both (g:Bool) (s:ByteArray) (x:Int) (w:World) (hT:Tp w):∃ (p:ByteArray) (e:Int),
  (∀ W:World,Below w.heap.size w W→Calls Tryd.prog 6 #[.agg #[.bool g,.string s,.int .i64 x]] W fun en W'=>en = .returned (.tuple #[.string p,.int .i64 e])∧Below W.heap.size W W') ∧
  ∀ W:World,Calls Tryd.prog 7 #[.agg #[.bool g,.string s,.int .i64 x]] W fun en W'=>en = .returned (.tuple #[.string p,.int .i64 e])∧Below W.heap.size W W':=by
 obtain ⟨e,h,h1,h2⟩:=check_full g s x
 rcases h with h|⟨rfl,hm,hd,hx0,hx1,hz,_⟩
 ·exact ⟨⟨#[]⟩,e,fun W _=>dsc_e W g s x e h (hide h1),fun W=>rsc_e W g s x e h (hide h2)⟩
 obtain ⟨sg,hsg,hn,h0,hmn⟩:=signs g s x
 have e46:(⟨#[46]⟩:ByteArray).size = 1:=rfl
 have e101:(⟨#[101]⟩:ByteArray).size = 1:=rfl
 have HI:∀ (y:Int),-2147483648≤y→y≤2147483648→∀ (W0:World),Below w.heap.size w W0→Hid (∀ W:World,Below W0.heap.size W0 W→Calls Tryd.prog 18 #[.int .i64 y] W fun e W'=>e = .returned (.string ⟨(Lib.itoa y).toArray⟩)∧Below W.heap.size W W'):=fun y a b W0 hb0=>hide fun W hb=>itoa_any y (by omega) (by omega) W ((hT.kept hb0).kept hb)
 have hit:∀ (y:Int),-2147483648≤y→y≤2147483648→(⟨(Lib.itoa y).toArray⟩:ByteArray).size≤100:=fun y a b=>by
  rw [size_mk]
  have:=Lib.itoa_length_le y (by omega) (by omega)
  omega
 by_cases hs0:s.size = 0
 ·have hx:=hz hs0
  subst hx
  have e48:(⟨#[48]⟩:ByteArray).size = 1:=rfl
  have hh:(⟨#[48]⟩:ByteArray).extract 0 1 = ⟨#[48]⟩:=rfl
  refine ⟨sg ++ ⟨#[48]⟩ ++ ⟨#[101]⟩ ++ ⟨(Lib.itoa 0).toArray⟩,0,fun W hb=>dsc_1 W g s 0 sg ⟨#[48]⟩ ⟨#[48]⟩ _ _ _ ⟨(Lib.itoa 0).toArray⟩ _ 0 (by decide) (by decide) hsg (by decide) rfl (hit 0 (by decide) (by decide)) hh rfl rfl (by rw [ByteArray.size_append]; omega) rfl (by rw [ByteArray.size_append]; omega) rfl (by rw [ByteArray.size_append,ByteArray.size_append]; omega) rfl rfl (hide h1) (hide (h0 hs0)) (HI 0 (by decide) (by decide) W hb),fun W=>?_⟩
  refine rsc_z W g s 0 sg _ hsg ?_ hs0 (hide h2) (hide hmn)
  apply ba_ext
  rw [data_cat2,data_cat2,data_cat2,data_cat2]
  have:Lib.itoa 0 = [48]:=by rw [Lib.itoa,if_neg (by decide),Lib.decDigits,dif_pos (by decide)]; rfl
  rw [this]
  simp
 obtain ⟨y,hy⟩:∃ y,x+(s.size:Int) - 1 = y:=⟨_,rfl⟩
 have hh1s:(s.extract 0 1).size = 1:=by rw [ByteArray.size_extract]; omega
 have u1s:(sg ++ s.extract 0 1).size≤2:=by rw [ByteArray.size_append]; omega
 have ht:=hit y (by omega) (by omega)
 by_cases h1s:s.size = 1
 ·have u3s:(sg ++ s.extract 0 1 ++ ⟨#[101]⟩).size≤3:=by rw [ByteArray.size_append]; omega
  exact ⟨sg ++ s.extract 0 1 ++ ⟨#[101]⟩ ++ ⟨(Lib.itoa y).toArray⟩,0,fun W hb=>dsc_1 W g s x sg s _ _ _ _ ⟨(Lib.itoa y).toArray⟩ _ y (by omega) (by omega) hsg hm h1s ht rfl hh1s rfl u1s rfl (by omega) rfl (by omega) rfl hy (hide h1) (hide (hn hs0)) (HI y (by omega) (by omega) W hb),fun W=>rsc_1 W g s x sg _ _ _ _ ⟨(Lib.itoa y).toArray⟩ _ y hx0 hx1 hsg hm h1s (by omega) rfl hh1s rfl u1s rfl (by omega) rfl (by omega) rfl hy hs0 (hide h2) (hide hmn) (hide (whole_is y (by omega) (by omega)))⟩
 ·have hr1s:(s.extract 1 s.size).size≤65536:=by rw [ByteArray.size_extract]; omega
  have p1s:(⟨#[46]⟩ ++ s.extract 1 s.size:ByteArray).size≤65537:=by rw [ByteArray.size_append]; omega
  have u2s:(sg ++ s.extract 0 1 ++ (⟨#[46]⟩ ++ s.extract 1 s.size)).size≤65539:=by rw [ByteArray.size_append]; omega
  have u3s:(sg ++ s.extract 0 1 ++ (⟨#[46]⟩ ++ s.extract 1 s.size) ++ ⟨#[101]⟩).size≤65540:=by rw [ByteArray.size_append]; omega
  have v1s:(sg ++ s.extract 0 1 ++ ⟨#[46]⟩).size≤3:=by rw [ByteArray.size_append]; omega
  refine ⟨sg ++ s.extract 0 1 ++ (⟨#[46]⟩ ++ s.extract 1 s.size) ++ ⟨#[101]⟩ ++ ⟨(Lib.itoa y).toArray⟩,0,fun W hb=>dsc_n W g s x sg s _ _ _ _ _ _ ⟨(Lib.itoa y).toArray⟩ _ y (by omega) (by omega) hsg hm (by omega) ht rfl hh1s rfl u1s rfl hr1s rfl p1s rfl u2s rfl u3s rfl hy (hide h1) (hide (hn hs0)) (HI y (by omega) (by omega) W hb),fun W=>rsc_n W g s x sg _ _ _ _ _ _ ⟨(Lib.itoa y).toArray⟩ _ y hx0 hx1 hsg hm (by omega) (by omega) rfl hh1s rfl u1s rfl v1s rfl hr1s ?_ u2s rfl u3s rfl hy hs0 (hide h2) (hide hmn) (hide (whole_is y (by omega) (by omega)))⟩
  apply ba_ext
  rw [data_cat2,data_cat2,data_cat2,data_cat2,data_cat2,data_cat2]
  simp only [List.append_assoc]
theorem decShifts_any (g:Bool) (s:ByteArray) (x n:Int) (w:World) (hT:Tp w) (hn0:-9223372036854775808≤n) (hn1:n < 9223372036854775808) :
  Calls Tryd.prog 3 #[.agg #[.bool g,.string s,.int .i64 x],.int .i64 n] w fun e w'=>e = .returned (.bool true)∧Below w.heap.size w w':=by
 obtain ⟨p,ep,p1,p2⟩:=plain_both g s x
 obtain ⟨t,et,t1,t2⟩:=sci_both g s x w hT
 obtain ⟨g2,s2,x2,e2,s3,s4⟩:=shift_both g s x n hn0 hn1
 exact shifts_law g s x n p ep t et g2 s2 x2 e2 w (hide p1) (hide p2) (hide t1) (hide t2) (hide s3) (hide s4)
end Go.Proofs.YtdbmdhfjmdlihaaDoor
