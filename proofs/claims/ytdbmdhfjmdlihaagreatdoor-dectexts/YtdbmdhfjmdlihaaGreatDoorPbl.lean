/- Of what DecTextsRow stands on: DcTextsLaw. -/
import Derived.Test.YtdbmdhfjmdlihaaGreatDoorPbk
import Derived.Test.YtdbmdhfjmdlihaaGreatDoorPag
import Derived.Lib.ItoaLen
namespace Go.Proofs.YtdbmdhfjmdlihaaGreatDoor
open Go.RowKit
theorem ddig_f {s:ByteArray} (hm:s.size≤65536) (hd:¬ AllD s s.size) (W:World):Calls Tryz.prog 23 #[.string s] W fun e W'=>e = .returned (.bool false)∧Below W.heap.size W W':=
 (allDigits_any s W hm).mono fun e W' ⟨h,hb⟩=>⟨by
  rcases h with ⟨_,h⟩|⟨h,_⟩
  ·exact absurd h hd
  ·exact h,hb⟩
theorem dcheck_full (g:Bool) (s:ByteArray) (x:Int):∃ e:Int,(e≠0∨(e = 0∧s.size≤65536∧AllD s s.size∧-1073741824≤x∧x≤1073741824∧(s.size = 0→x = 0)∧(∀ h:0 < s.size,(s[0]'h).toNat≠48)∧∀ k,(h:k+1 = s.size)→(s[k]'(by omega)).toNat≠48)) ∧
  ∀ W:World,Calls Tryz.prog 19 #[.agg #[.bool g,.string s,.int .i64 x]] W fun en W'=>en = .returned (.int .i64 e)∧Below W.heap.size W W':=by
 by_cases hm:65536 < s.size
 ·exact ⟨4,Or.inl (by decide),fun W=>dck_many W g s x hm⟩
 have hm':s.size≤65536:=by omega
 by_cases hz:s.size = 0
 ·by_cases hx:x = 0
  ·exact ⟨0,Or.inr ⟨rfl,hm',fun j hj _=>absurd hj (by omega),by omega,by omega,fun _=>hx,fun h=>absurd h (by omega),fun k h=>absurd h (by omega)⟩,fun W=>dck_z0 W g s x hm' hz hx⟩
  ·exact ⟨100,Or.inl (by decide),fun W=>dck_z1 W g s x hm' hz hx⟩
 obtain ⟨f,t,he,hft,HE⟩:=ends_fix s hm'
 have hhi:=he.hi
 by_cases hf:0 < f
 ·exact ⟨100,Or.inl (by decide),fun W=>dck_b1 W g s x f t hm' hz (hide HE) hf⟩
 by_cases ht:t < s.size
 ·exact ⟨100,Or.inl (by decide),fun W=>dck_b2 W g s x f t hm' hz (hide HE) (by omega) ht⟩
 by_cases hd:AllD s s.size
 case neg=>exact ⟨100,Or.inl (by decide),fun W=>dck_b3 W g s x f t hm' hz (hide HE) (by omega) (by omega) (hide (ddig_f hm' hd))⟩
 have hlt:f < t:=by omega
 have h0:f = 0:=by omega
 subst h0
 by_cases hx:x < -1073741824∨1073741824 < x
 ·refine ⟨100,Or.inl (by decide),fun W=>dck_b4 W g s x 0 t hm' hz (hide HE) rfl (by omega) (hide (ddig_t hm' hd)) (hide fun W=>?_)⟩
  by_cases h1:x < -1073741824
  ·exact bey_lo W x h1
  ·exact bey_hi W x (by omega) (by omega)
 ·refine ⟨0,Or.inr ⟨rfl,hm',hd,by omega,by omega,fun h=>absurd h hz,fun h=>he.one hlt h,fun k h=>?_⟩,fun W=>dck_ok W g s x 0 t hm' hz (hide HE) rfl (by omega) (hide (ddig_t hm' hd)) (hide fun W=>bey_in W x (by omega) (by omega))⟩
  have h1:t = k+1:=by omega
  subst h1
  exact he.two hlt (by omega)
theorem data_ex (s:ByteArray) (a b:Nat):(s.extract a b).data.toList = (s.data.toList.drop a).take (b - a):=by
 rw [ByteArray.data_extract,Array.toList_extract,List.extract_eq_take_drop]
theorem make_is (g:Bool) (u:ByteArray) (x:Int) (s:ByteArray) (y:Int) (n z:Nat) (hu:AllD u u.size) (hm:u.size≤65536) (hx0:-1000000≤x) (hx1:x≤1000000) (hv:valS u = n * 10 ^ z) (h10:n % 10≠0) (hS:Says s n) (hy:x+(z:Int) = y) (hy0:-1073741824≤y) (hy1:y≤1073741824) (W:World) :
  Calls Tryz.prog 9 #[.bool g,.string u,.int .i64 x] W fun e W'=>e = .returned (.tuple #[.agg #[.bool g,.string s,.int .i64 y],.int .i64 0])∧Below W.heap.size W W':=by
 obtain ⟨V,hV,h⟩:=dmake_c g u x (by omega) (by omega) hm hu
 have e:=hV.uniq (mk_lit (n:=n) (z:=z) (y:=y) hv h10 hS hy hy0 hy1)
 exact (h W).mono fun e' W' ⟨k1,k2⟩=>⟨by rw [k1,e],k2⟩
theorem says_self {s:ByteArray} (hd:AllD s s.size) (h0:0 < s.size) (ha:∀ h:0 < s.size,(s[0]'h).toNat≠48) (hb:∀ k,(h:k+1 = s.size)→(s[k]'(by omega)).toNat≠48):Says s (valS s)∧valS s % 10≠0:=by
 obtain ⟨q,hq⟩:∃ q,q+1 = s.size:=⟨s.size - 1,by omega⟩
 have hE:Ends s 0 (q+1):=⟨by omega,by omega,fun j _ h=>by omega,fun j h h2=>by omega,fun _ h=>ha h,fun _ h=>hb q hq⟩
 obtain ⟨n,z,hz,hv,h10,hS⟩:=core_of hd hE (Nat.zero_le _)
 have hz0:z = 0:=by omega
 subst hz0
 have hvn:valS s = n:=by simpa using hv
 rw [hvn]
 have he:s.extract 0 (q+1) = s:=by rw [hq,ByteArray.extract_zero_size]
 rw [he] at hS
 exact ⟨hS,h10⟩
theorem noS_list (k:Nat):(noS k).data.toList = List.replicate k 48:=by
 unfold noS chars
 rw [List.toList_toArray,List.map_replicate]
 rfl
theorem of_list (s:ByteArray):(⟨s.data.toList.toArray⟩:ByteArray) = s:=by
 apply ByteArray.ext
 simp
theorem size_mk (l:List UInt8):(⟨l.toArray⟩:ByteArray).size = l.length:=by simp [ByteArray.size]
theorem size_list (s:ByteArray):s.data.toList.length = s.size:=Array.length_toList
theorem pre_val (s:ByteArray) (o:Nat) (hd:AllD s s.size):AllD (noS o ++ s) (noS o ++ s).size∧(noS o ++ s).size = o+s.size∧valS (noS o ++ s) = valS s:=by
 refine ⟨alld_mem.2 fun b hb=>?_,by rw [ByteArray.size_append,size_noS],?_⟩
 ·rw [data_cat,List.mem_append] at hb
  rcases hb with hb|hb
  ·exact alld_mem.1 (all_chars (dig_noughts o)) b hb
  ·exact alld_mem.1 hd b hb
 ·have e:digs (noS o ++ s) = List.replicate o 0 ++ digs s:=by
   have e2:digs (noS o) = List.replicate o 0:=digs_chars (dig_noughts o)
   rw [← e2]
   unfold digs
   rw [data_cat,List.map_append]
  have h:=(told_val s o 0 hd).1
  rw [List.replicate_zero,List.append_nil,← e,Nat.pow_zero,Nat.mul_one] at h
  exact h
theorem mem_dig {s:ByteArray} (hd:AllD s s.size):∀ b,b∈s.data.toList→48≤b.toNat∧b.toNat≤57:=alld_mem.1 hd
theorem part_is (s:ByteArray) (O:ByteArray) (L:Nat) (q:Bool) (hm:s.size≤1000000) (h:pt s.data.toList true [] 0 false = some (O.data.toList,L,q)) (hO:0 < O.size) (hq:q = true→0 < L) (W:World) :
  Calls Tryz.prog 8 #[.string s] W fun e w'=>e = .returned (.tuple #[.string O,.int .i64 (L:Int),.bool true])∧Below W.heap.size W w':=
 parted_is s O.data.toList L q W hm h (fun e=>by have:=congrArg List.length e; rw [size_list,List.length_nil] at this; omega) hq O (of_list O)
theorem sci_is (g:Bool) (s:ByteArray) (x:Int) (sg dg:ByteArray) (w:World) (hT:Tp w) (hx0:-3000≤x) (hx1:x≤3000) (hsg:sg.data.toList = []∨sg.data.toList = [45]) (hd:AllD dg dg.size) (h0:1≤dg.size) (h3:dg.size≤3000)
  (HC:Hid (∀ W:World,Calls Tryz.prog 19 #[.agg #[.bool g,.string s,.int .i64 x]] W fun e W'=>e = .returned (.int .i64 0)∧Below W.heap.size W W'))
  (HS:Hid (∀ W:World,Calls Tryz.prog 20 #[.agg #[.bool g,.string s,.int .i64 x]] W fun e W'=>e = .returned (.tuple #[.string sg,.string dg])∧Below W.heap.size W W')) :
  ∃ t:ByteArray,(∀ W:World,Below w.heap.size w W→Calls Tryz.prog 7 #[.agg #[.bool g,.string s,.int .i64 x]] W fun e W'=>e = .returned (.tuple #[.string t,.int .i64 0])∧Below W.heap.size W W') ∧
   ∀ W:World,Calls Tryz.prog 8 #[.string t] W fun e W'=>e = .returned (.tuple #[.string dg,.int .i64 ((dg.size - 1:Nat):Int),.bool true])∧Below W.heap.size W W':=by
 have hsgs:sg.size≤1:=by
  rw [← size_list]
  rcases hsg with h|h <;> rw [h] <;> decide
 have e46:(⟨#[46]⟩:ByteArray).size = 1:=rfl
 have e101:(⟨#[101]⟩:ByteArray).size = 1:=rfl
 obtain ⟨y,hy⟩:∃ y,x+(dg.size:Int) - 1 = y:=⟨_,rfl⟩
 obtain ⟨it,hit⟩:∃ it:ByteArray,it = ⟨(Lib.itoa y).toArray⟩:=⟨_,rfl⟩
 have hits:it.size≤100:=by
  have h:=Lib.itoa_length_le y (by omega) (by omega)
  rw [← size_list,hit]
  simp
  omega
 have HI:∀ (W0:World),Below w.heap.size w W0→Hid (∀ W:World,Below W0.heap.size W0 W→Calls Tryz.prog 22 #[.int .i64 y] W fun e W'=>e = .returned (.string it)∧Below W.heap.size W W'):=fun W0 hb0=>hide fun W hb=>by
  rw [hit]
  exact itoa_any y (by omega) (by omega) W ((hT.kept hb0).kept hb)
 have hh1s:(dg.extract 0 1).size = 1:=by rw [ByteArray.size_extract]; omega
 have hh1l:(dg.extract 0 1).data.toList = dg.data.toList.take 1:=by rw [data_ex,List.drop_zero]
 have hdl:dg.data.toList.length = dg.size:=size_list dg
 have hA:∀ b,b∈dg.data.toList.take 1→48≤b.toNat∧b.toNat≤57:=fun b hb=>mem_dig hd b (List.mem_of_mem_take hb)
 have hAne:dg.data.toList.take 1≠[]:=fun e=>by have:=congrArg List.length e; rw [List.length_take,hdl,List.length_nil] at this; omega
 by_cases h1:dg.size = 1
 ·refine ⟨sg ++ dg.extract 0 1 ++ ⟨#[101]⟩ ++ it,fun W hb=>dsc_1 W g s x sg dg _ _ _ _ it _ y (by omega) (by omega) hsgs (by omega) h1 hits rfl hh1s rfl (by rw [ByteArray.size_append]; omega) rfl (by rw [ByteArray.size_append]; omega) rfl (by rw [ByteArray.size_append,ByteArray.size_append]; omega) rfl hy HC HS (HI W hb),fun W=>part_is _ dg (dg.size - 1) false (by rw [ByteArray.size_append,ByteArray.size_append,ByteArray.size_append]; omega) ?_ (by omega) (fun h=>by cases h) W⟩
  rw [data_cat,data_cat,data_cat,hh1l,List.append_assoc,pt_text _ _ _ hsg hA hAne]
  show pt (101 :: it.data.toList) false _ 0 false = _
  rw [pt_e,List.take_of_length_le (by omega),h1]
 ·have hr1s:(dg.extract 1 dg.size).size = dg.size - 1:=by rw [ByteArray.size_extract]; omega
  have hr1l:(dg.extract 1 dg.size).data.toList = dg.data.toList.drop 1:=by rw [data_ex,List.take_of_length_le (by rw [List.length_drop,hdl]; omega)]
  have hB:∀ b,b∈dg.data.toList.drop 1→48≤b.toNat∧b.toNat≤57:=fun b hb=>mem_dig hd b (List.mem_of_mem_drop hb)
  have hBne:dg.data.toList.drop 1≠[]:=fun e=>by have:=congrArg List.length e; rw [List.length_drop,hdl,List.length_nil] at this; omega
  refine ⟨sg ++ dg.extract 0 1 ++ (⟨#[46]⟩ ++ dg.extract 1 dg.size) ++ ⟨#[101]⟩ ++ it,fun W hb=>dsc_n W g s x sg dg _ _ _ _ _ _ it _ y (by omega) (by omega) hsgs (by omega) (by omega) hits rfl hh1s rfl (by rw [ByteArray.size_append]; omega) rfl (by omega) rfl (by rw [ByteArray.size_append]; omega) rfl (by rw [ByteArray.size_append,ByteArray.size_append,ByteArray.size_append]; omega) rfl (by rw [ByteArray.size_append,ByteArray.size_append,ByteArray.size_append,ByteArray.size_append]; omega) rfl hy HC HS (HI W hb),fun W=>part_is _ dg (dg.size - 1) true (by rw [ByteArray.size_append,ByteArray.size_append,ByteArray.size_append,ByteArray.size_append,ByteArray.size_append]; omega) ?_ (by omega) (fun _=>by omega) W⟩
  rw [data_cat,data_cat,data_cat,data_cat,data_cat,hh1l,hr1l,List.append_assoc,List.append_assoc,pt_text _ _ _ hsg hA hAne]
  show pt (46 :: (dg.data.toList.drop 1 ++ (101 :: it.data.toList))) false _ 0 false = _
  rw [pt_point _ _ _ hAne hB hBne,pt_e,List.take_append_drop,List.length_drop,hdl]
theorem plain_is (g:Bool) (s:ByteArray) (x:Int) (sg:ByteArray) (hx0:-3000≤x) (hx1:x≤3000) (hsg:sg.data.toList = []∨sg.data.toList = [45]) (hd:AllD s s.size) (h0:1≤s.size) (h3:s.size≤3000) (hS:Says s (valS s)) (h10:valS s % 10≠0)
  (HC:Hid (∀ W:World,Calls Tryz.prog 19 #[.agg #[.bool g,.string s,.int .i64 x]] W fun e W'=>e = .returned (.int .i64 0)∧Below W.heap.size W W'))
  (HS:Hid (∀ W:World,Calls Tryz.prog 20 #[.agg #[.bool g,.string s,.int .i64 x]] W fun e W'=>e = .returned (.tuple #[.string sg,.string s])∧Below W.heap.size W W')) :
  ∃ (p y:ByteArray) (pl:Nat),pl≤100000∧(decide (0 < pl) == decide (x < 0)) = true∧(∀ W:World,Calls Tryz.prog 6 #[.agg #[.bool g,.string s,.int .i64 x]] W fun e W'=>e = .returned (.tuple #[.string p,.int .i64 0])∧Below W.heap.size W W') ∧
   (∀ W:World,Calls Tryz.prog 8 #[.string p] W fun e W'=>e = .returned (.tuple #[.string y,.int .i64 (pl:Int),.bool true])∧Below W.heap.size W W') ∧
   ∀ W:World,Calls Tryz.prog 9 #[.bool g,.string y,.int .i64 (-(pl:Int))] W fun e W'=>e = .returned (.tuple #[.agg #[.bool g,.string s,.int .i64 x],.int .i64 0])∧Below W.heap.size W W':=by
 obtain ⟨a,ha⟩:∃ a,sg.size = a:=⟨_,rfl⟩
 have ha1:a≤1:=by
  rw [← ha,← size_list]
  rcases hsg with h|h <;> rw [h] <;> decide
 have hsl:sg.data.toList.length = a:=by rw [size_list,ha]
 have hdl:s.data.toList.length = s.size:=size_list s
 have hne:s.data.toList≠[]:=fun e=>by have:=congrArg List.length e; rw [hdl,List.length_nil] at this; omega
 by_cases hx:0≤x
 ·obtain ⟨k,hk⟩:∃ k:Nat,x = (k:Int):=⟨x.toNat,by omega⟩
  obtain ⟨c1,c2,c3⟩:=cat_val s k hd
  have hkt:x.toNat = k:=by omega
  have hyl:(s ++ noS k).data.toList = s.data.toList ++ List.replicate k 48:=by rw [data_cat,noS_list]
  refine ⟨⟨(sg.data.toList ++ s.data.toList ++ List.replicate x.toNat 48).toArray⟩,s ++ noS k,0,by omega,by rw [hk]; simp,fun W=>dpl_pos g s x sg s a (s.size+k) (a+(s.size+k)) W hx (by omega) ha ha1 h0 (by omega) (by omega) rfl (by omega) _ (hide rfl) HC HS,fun W=>part_is _ (s ++ noS k) 0 false ?_ ?_ (by rw [c2]; omega) (by decide) W,fun W=>?_⟩
  ·rw [size_mk,List.length_append,List.length_append,hsl,List.length_replicate,hdl]; omega
  ·show pt (sg.data.toList ++ s.data.toList ++ List.replicate x.toNat 48) true [] 0 false = _
   rw [List.append_assoc,hkt,← hyl]
   have:=pt_text sg.data.toList (s ++ noS k).data.toList [] hsg (mem_dig c1) (by rw [hyl]; simp [hne])
   rw [List.append_nil] at this
   rw [this]; rfl
  ·exact make_is g _ _ s x (valS s) k c1 (by rw [c2]; omega) (by decide) (by decide) c3 h10 hS (by omega) (by omega) (by omega) W
 ·obtain ⟨j,hj⟩:∃ j:Nat,x = -(j:Int):=⟨(-x).toNat,by omega⟩
  have hpx:(decide (0 < j) == decide (x < 0)) = true:=by rw [decide_eq_true (show 0 < j by omega),decide_eq_true (show x < 0 by omega)]; rfl
  by_cases hjs:j < s.size
  ·obtain ⟨m,hm⟩:∃ m,m+j = s.size:=⟨s.size - j,by omega⟩
   have hol:(s.extract 0 m).data.toList = s.data.toList.take m:=by rw [data_ex,List.drop_zero,Nat.sub_zero]
   have hrl:(s.extract m s.size).data.toList = s.data.toList.drop m:=by rw [data_ex,List.take_of_length_le (by rw [List.length_drop,hdl]; omega)]
   refine ⟨⟨(sg.data.toList ++ (s.extract 0 m).data.toList ++ [46] ++ (s.extract m s.size).data.toList).toArray⟩,s,j,by omega,hpx,fun W=>dpl_in g s x sg s a (a+m+1+j) m j _ _ (1+j) (by omega) (by omega) hj rfl rfl rfl rfl W (by omega) (by omega) ha ha1 h0 (by omega) (by omega) _ (hide rfl) HC HS,fun W=>part_is _ s j true ?_ ?_ (by omega) (fun _=>by omega) W,fun W=>?_⟩
   ·rw [size_mk,List.length_append,List.length_append,List.length_append,hsl,hol,hrl,List.length_take,List.length_drop,hdl,List.length_singleton]; omega
   ·show pt (sg.data.toList ++ (s.extract 0 m).data.toList ++ [46] ++ (s.extract m s.size).data.toList) true [] 0 false = _
    rw [hol,hrl,List.append_assoc,List.append_assoc]
    rw [← List.append_assoc,pt_text _ _ _ hsg (fun b hb=>mem_dig hd b (List.mem_of_mem_take hb)) (fun e=>by have:=congrArg List.length e; rw [List.length_take,hdl,List.length_nil] at this; omega)]
    have hp:=pt_point (s.data.toList.take m) (s.data.toList.drop m) [] (fun e=>by have:=congrArg List.length e; rw [List.length_take,hdl,List.length_nil] at this; omega) (fun b hb=>mem_dig hd b (List.mem_of_mem_drop hb)) (fun e=>by have:=congrArg List.length e; rw [List.length_drop,hdl,List.length_nil] at this; omega)
    rw [List.append_nil] at hp
    show pt (46 :: s.data.toList.drop m) false _ 0 false = _
    rw [hp,pt,List.take_append_drop,List.length_drop,hdl]
    congr 2
    congr 1
    omega
   ·exact make_is g _ _ s x (valS s) 0 hd (by omega) (by omega) (by omega) (by rw [Nat.pow_zero,Nat.mul_one]) h10 hS (by omega) (by omega) (by omega) W
  ·obtain ⟨z,hz⟩:∃ z,s.size+z = j:=⟨j - s.size,by omega⟩
   obtain ⟨c1,c2,c3⟩:=pre_val s (z+1) hd
   have hyl:(noS (z+1) ++ s).data.toList = [48] ++ (List.replicate z 48 ++ s.data.toList):=by rw [data_cat,noS_list,List.replicate_succ]; rfl
   refine ⟨⟨(sg.data.toList ++ [48] ++ [46] ++ List.replicate z 48 ++ s.data.toList).toArray⟩,noS (z+1) ++ s,j,by omega,hpx,fun W=>dpl_out g s x sg s a (a+2+j) j z _ rfl (by omega) hj hz rfl W (by omega) (by omega) ha ha1 h0 (by omega) (by omega) _ (hide rfl) HC HS,fun W=>part_is _ (noS (z+1) ++ s) j true ?_ ?_ (by rw [c2]; omega) (fun _=>by omega) W,fun W=>?_⟩
   ·rw [size_mk,List.length_append,List.length_append,List.length_append,List.length_append,hsl,List.length_replicate,hdl,List.length_singleton,List.length_singleton]; omega
   ·show pt (sg.data.toList ++ [48] ++ [46] ++ List.replicate z 48 ++ s.data.toList) true [] 0 false = _
    rw [hyl,List.append_assoc,List.append_assoc]
    rw [pt_text _ [48] _ hsg (by decide) (by decide)]
    have hB:∀ b,b∈List.replicate z (48:UInt8) ++ s.data.toList→48≤b.toNat∧b.toNat≤57:=fun b hb=>by
     rcases List.mem_append.1 hb with hb|hb
     ·rw [List.eq_of_mem_replicate hb]; decide
     ·exact mem_dig hd b hb
    have hp:=pt_point [48] (List.replicate z 48 ++ s.data.toList) [] (by decide) hB (by simp [hne])
    rw [List.append_nil] at hp
    show pt (46 :: (List.replicate z 48 ++ s.data.toList)) false _ 0 false = _
    rw [hp,pt,List.length_append,List.length_replicate,hdl]
    congr 2
    congr 1
    omega
   ·exact make_is g _ _ s x (valS s) 0 c1 (by rw [c2]; omega) (by omega) (by omega) (by rw [c3,Nat.pow_zero,Nat.mul_one]) h10 hS (by omega) (by omega) (by omega) W
theorem zero_make (g:Bool) (v:Int) (hv0:-1000000≤v) (hv1:v≤1000000) (W:World):Calls Tryz.prog 9 #[.bool g,.string ⟨#[48]⟩,.int .i64 v] W fun e W'=>e = .returned (.tuple #[.agg #[.bool g,.string ⟨#[]⟩,.int .i64 0],.int .i64 0])∧Below W.heap.size W W':=by
 obtain ⟨V,hV,h⟩:=dmake_c g ⟨#[48]⟩ v (by omega) (by omega) (by decide) (alld_mem.2 (by decide))
 have e:=hV.uniq (Or.inl ⟨rfl,rfl⟩)
 exact (h W).mono fun e' W' ⟨k1,k2⟩=>⟨by rw [k1,e],k2⟩
theorem sign_of (g:Bool) (s:ByteArray) (x:Int):∃ sg:ByteArray,(sg.data.toList = []∨sg.data.toList = [45])∧(s.size≠0→∀ W:World,Calls Tryz.prog 20 #[.agg #[.bool g,.string s,.int .i64 x]] W fun e W'=>e = .returned (.tuple #[.string sg,.string s])∧Below W.heap.size W W') ∧
  (s.size = 0→∀ W:World,Calls Tryz.prog 20 #[.agg #[.bool g,.string s,.int .i64 x]] W fun e W'=>e = .returned (.tuple #[.string sg,.string ⟨#[48]⟩])∧Below W.heap.size W W'):=by
 cases g
 ·exact ⟨⟨#[]⟩,Or.inl rfl,fun h W=>sad_df W s x h,fun h W=>sad_zf W s x h⟩
 ·exact ⟨⟨#[45]⟩,Or.inr rfl,fun h W=>sad_dt W s x h,fun h W=>sad_zt W s x h⟩
theorem decTexts_any (g:Bool) (s:ByteArray) (x:Int) (w:World) (hT:Tp w) :
  Calls Tryz.prog 3 #[.agg #[.bool g,.string s,.int .i64 x]] w fun e w'=>e = .returned (.bool true)∧Below w.heap.size w w':=by
 have HA:=hide dalive_any
 obtain ⟨e,h,h1⟩:=dcheck_full g s x
 rcases h with h|⟨rfl,hm,hd,hx0,hx1,hz,ha,hb⟩
 ·exact texts_no g s x w HA (hide fun W=>cl_e W g s x e h (hide h1))
 by_cases c1:3000 < s.size
 ·exact texts_no g s x w HA (hide fun W=>cl_1 W g s x c1 (hide h1))
 by_cases c2:3000 < x
 ·exact texts_no g s x w HA (hide fun W=>cl_2 W g s x (by omega) c2 (hide h1))
 by_cases c3:x < -3000
 ·exact texts_no g s x w HA (hide fun W=>cl_3 W g s x (by omega) c3 (hide h1))
 have HC:=hide fun W=>cl_ok W g s x (by omega) (by omega) (by omega) (hide h1)
 obtain ⟨sg,hsg,hn,h0⟩:=sign_of g s x
 by_cases hs0:s.size = 0
 ·have hx:=hz hs0
  subst hx
  have hse:s = ⟨#[]⟩:=by
   apply ByteArray.ext
   exact Array.eq_empty_of_size_eq_zero hs0
  subst hse
  obtain ⟨a,ha'⟩:∃ a,sg.size = a:=⟨_,rfl⟩
  have ha1:a≤1:=by
   rw [← ha',← size_list]
   rcases hsg with h|h <;> rw [h] <;> decide
  obtain ⟨t,ht1,ht2⟩:=sci_is g ⟨#[]⟩ 0 sg ⟨#[48]⟩ w hT (by decide) (by decide) hsg (alld_mem.2 (by decide)) (by decide) (by decide) (hide h1) (hide (h0 rfl))
  refine texts_go g ⟨#[]⟩ 0 ⟨(sg.data.toList ++ [48] ++ List.replicate 0 48).toArray⟩ t ⟨#[48]⟩ ⟨#[48]⟩ 0 0 (-1) g ⟨#[]⟩ 0 0 w (by decide) (by decide) (by decide) (by decide) (by decide) (hide (by decide)) (Or.inl ⟨by rw [ByteArray.toList_eq],rfl⟩) rfl HA HC (hide fun W=>dpl_pos g ⟨#[]⟩ 0 sg ⟨#[48]⟩ a 1 (a+1) W (by decide) (by decide) ha' ha1 (by decide) (by decide) (by decide) rfl (by omega) _ (hide rfl) (hide h1) (hide (h0 rfl))) (hide ht1) (hide fun W=>part_is _ ⟨#[48]⟩ 0 false ?_ ?_ (by decide) (by decide) W) (hide ht2) (hide (zero_make g _ (by decide) (by decide))) (hide (zero_make g _ (by decide) (by decide)))
  ·rw [size_mk,List.length_append,List.length_append,size_list,ha']
   simp
   omega
  ·show pt (sg.data.toList ++ [48] ++ []) true [] 0 false = _
   rw [pt_text _ [48] [] hsg (by decide) (by decide)]; rfl
 ·obtain ⟨hS,h10⟩:=says_self hd (by omega) ha hb
  obtain ⟨p,y,pl,k1,k2,k3,k4,k5⟩:=plain_is g s x sg (by omega) (by omega) hsg hd (by omega) (by omega) hS h10 (hide h1) (hide (hn hs0))
  obtain ⟨t,ht1,ht2⟩:=sci_is g s x sg s w hT (by omega) (by omega) hsg hd (by omega) (by omega) (hide h1) (hide (hn hs0))
  refine texts_go g s x p t y s pl (s.size - 1) x g s x 0 w (by omega) (by omega) (by omega) k1 (by omega) (hide (by omega)) (Or.inr ⟨fun e=>?_,rfl,rfl,rfl,rfl⟩) k2 HA HC (hide k3) (hide ht1) (hide k4) (hide ht2) (hide k5) (hide (make_is g s x s x (valS s) 0 hd (by omega) (by omega) (by omega) (by rw [Nat.pow_zero,Nat.mul_one]) h10 hS (by omega) (by omega) (by omega)))
  rw [ByteArray.toList_eq] at e
  have:=congrArg List.length e
  rw [size_list,List.length_nil] at this
  omega
end Go.Proofs.YtdbmdhfjmdlihaaGreatDoor
