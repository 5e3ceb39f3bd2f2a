/- Of what NearRoundsRow stands on: UpOver Vars UpDown Pow. -/
import Derived.Test.YtaidedkpfnidpaaGreatDoorPae
import Derived.Test.YtaidedkpfnidpaaGreatDoorPag
namespace Go.Proofs.YtaidedkpfnidpaaGreatDoor
open Go.RowKit
set_option maxHeartbeats 2000000
theorem Dz(a:Option Addr)(n cap m k j:Nat)(w:World)(h:Num w a n m)(hm:0<m)(hj:Bl m j)(hk:524288<k+j)(_hk2:k<9223372036854775808) :
  Calls Tryz.prog 63 #[.agg #[.slice a n cap],.int .i64 (k:Int)] w fun e w'=>e = .returned (.tuple #[.agg #[.slice none 0 0],.int .i64 4])∧Below w.heap.size w w':=by
 have H:=hide h;have hz:=h.zero;have hn0:((n:Int)==0)=false:=by simp;omega
 obtain ⟨xs,hn,hl,hw,hN,hv,hb⟩:=h;have hck:=fun (o1 o2:Obj)=>eX a cap xs ((w.alloc o1).alloc o2) (by omega) ((hl.alloc _).alloc _);rw [hn,bC (by omega) hN] at hck;have HK:=hide hck;have HJ:=hide hj;clear hck hl hn hv hz hj;go_enter Tryz.func63,Tryz.ntmps63
 go_wp2_with fail
 refine (aa HK _ _).mono ?_;rintro e w1 ⟨rfl,hb1⟩;have hbx:=((aQ.made w (.slice a n cap)).alloc (.cells #[.slice none 0 0] 27)).kept hb1;have hby:=(aQ.made (w.alloc (.cells #[.slice a n cap] 27)) (.slice none 0 0)).kept hb1;simp only [World.size_alloc] at hby
 have hcx:=hbx.cell;have hcy:=hby.cell;have hfy:=hby.frozen;have HB:=hide (ai (ai (ah w (.cells #[.slice a n cap] 27)) (ah _ (.cells #[.slice none 0 0] 27))) hb1);clear hb1 HK;go_wp2_with fail
 refine (fO a n cap m w1 ((aa H).kept (aa HB))).mono ?_;rintro e w2 ⟨⟨j2,rfl,hB2,hle⟩,rfl⟩;obtain rfl:j2=j:=hB2.uniq (aa HJ);clear hB2;have hgt:(524288:Int)-(j2:Int)<(k:Int):=by omega
 clear hk;go_wp2
 exact bodyPost_ret (v:=.tuple #[.agg #[.slice none 0 0],.int .i64 4]) (by simp [results,Tryz.results63,go_sem,hcy]) rfl ⟨rfl,(aa HB).setCell (by simp) _⟩
theorem Cb{xs:List Nat}(h:eG xs=0):xs.length≤16384∧Pl.Norm xs:=by
 unfold eG at h;by_cases h1:16384<xs.length
 ·rw [if_pos h1] at h;cases h
 ·rw [if_neg h1] at h;refine ⟨by omega,Pl.norm_of ?_⟩;by_cases h2:0<xs.length∧xs[xs.length-1]?.getD 0=0
  ·rw [if_pos h2] at h;cases h
  ·by_cases h0:xs.length=0
   ·exact Or.inl h0
   ·exact Or.inr (fun e=>h2 ⟨by omega,e⟩)
def Iz:Nat:=4000
def Kk:Nat:=4294967296^Iz
def K4:Nat:=Kk*Kk*Kk*Kk
theorem cK(a:Option Addr)(n cap m:Nat)(w:World)(h:Num w a n m) :
  Calls Tryz.prog 98 #[.agg #[.slice a n cap]] w fun e w'=>e = .returned (.int .i64 0)∧Below w.heap.size w w':=by
 obtain ⟨xs,hn,hl,hw,hN,hv,hb⟩:=h;have:=eX a cap xs w (by omega) hl;rw [hn,bC (by omega) hN] at this;exact this
theorem Mine.cap{w:World}{base:Nat}{a:Option Addr}{n cap m:Nat}(h:Mine w base a n cap m):n≤cap∧cap≤9223372036854775807:=by
 obtain ⟨xs,hn,ho,_⟩:=h;obtain ⟨a',c',e,h1,h2,_⟩:=ho.lim;injection e with e1 e2 e3
 omega
theorem DZ(a:Option Addr)(cap k:Nat)(w:World) :
  Calls Tryz.prog 63 #[.agg #[.slice a 0 cap],.int .i64 (k:Int)] w fun e w'=>e = .returned (.tuple #[.agg #[.slice none 0 0],.int .i64 0])∧Below w.heap.size w w':=by
 have HK:=hide (fun (o1 o2:Obj)=>cK a 0 cap 0 ((w.alloc o1).alloc o2) ⟨[],rfl,Or.inl rfl,Pl.wf_nil,Pl.norm_nil,rfl,by omega⟩);go_enter Tryz.func63,Tryz.ntmps63
 go_wp2_with fail
 refine (aa HK _ _).mono ?_;rintro e w1 ⟨rfl,hb1⟩;have hbx:=((aQ.made w (.slice a 0 cap)).alloc (.cells #[.slice none 0 0] 27)).kept hb1;have hby:=(aQ.made (w.alloc (.cells #[.slice a 0 cap] 27)) (.slice none 0 0)).kept hb1;simp only [World.size_alloc] at hby
 have hcx:=hbx.cell;have hcy:=hby.cell;have hfy:=hby.frozen;have HB:=hide (ai (ai (ah w (.cells #[.slice a 0 cap] 27)) (ah _ (.cells #[.slice none 0 0] 27))) hb1);clear hb1 HK;go_wp2
 exact bodyPost_ret (v:=.tuple #[.agg #[.slice none 0 0],.int .i64 0]) (by simp [results,Tryz.results63,go_sem,hcy]) rfl ⟨rfl,(aa HB).setCell (by simp) _⟩
theorem Jh(a:Option Addr)(n cap m k j:Nat)(w:World)(h:Num w a n m)(hm:0<m)(hj:Bl m j)(hk:k+j≤524288) :
  Calls Tryz.prog 63 #[.agg #[.slice a n cap],.int .i64 (k:Int)] w fun e w'=>ib w' w.heap.size e (m*2^k)∧Below w.heap.size w w':=by
 have H:=hide h;have hz:=h.zero;have hn0:((n:Int)==0)=false:=by simp;omega
 have HK:=hide (fun (o1 o2:Obj)=>cK a n cap m ((w.alloc o1).alloc o2) ((h.alloc o1).alloc o2));have hnb:=h.len;have HJ:=hide hj;have hk2:k≤524288:=by omega
 clear hz hj h;go_enter Tryz.func63,Tryz.ntmps63
 go_wp2_with fail
 refine (aa HK _ _).mono ?_;rintro e w1 ⟨rfl,hb1⟩;have hbx:=((aQ.made w (.slice a n cap)).alloc (.cells #[.slice none 0 0] 27)).kept hb1;have hby:=(aQ.made (w.alloc (.cells #[.slice a n cap] 27)) (.slice none 0 0)).kept hb1;simp only [World.size_alloc] at hby
 have hcx:=hbx.cell;have HB:=hide (ai (ai (ah w (.cells #[.slice a n cap] 27)) (ah _ (.cells #[.slice none 0 0] 27))) hb1);clear hb1 HK;go_wp2_with fail
 refine (fO a n cap m w1 ((aa H).kept (aa HB))).mono ?_;rintro e w2 ⟨⟨j2,rfl,hB2,hle⟩,rfl⟩;obtain rfl:j2=j:=hB2.uniq (aa HJ);have hgt:¬(524288:Int)-(j2:Int)<(k:Int):=by omega
 have HKJ:=hide hk;clear hk hB2;go_wp2_with fail
 have hN1:=(aa H).kept (aa HB);obtain ⟨xs,hn,hl,hw,hN,hv,hb⟩:=hN1;refine (mY a n cap (k/32) (k%32) k xs w1 hn (by omega) hl hw (by omega) (by omega) (by omega)).mono ?_;rintro e w3 ⟨out,rfl,hol,how,hov,hr3,hb3⟩;rw [hv] at hov;have hby3:=hby.kept hb3;have HB3:=hide (ai (aa HB) hb3);have HV:=hide hov;have hs1:=(aa HB).size;have hwl:k/32≤16384:=by omega
 generalize k/32=wh at *;clear hov hb3 hl hn hv hw hN hcx hbx;go_wp2_with fail
 refine (gI w1.heap.size w.heap.size (wh+n+1) (wh+n+1) out w3 hol hr3 hs1 (Nat.le_refl _) (by omega) how).mono ?_;rintro e w4 ⟨hans,hb4⟩;rw [aa HV] at hans;have hX4:=hby3.kept hb4;have hcx:=hX4.cell;have hfx:=hX4.frozen;have HB4:=hide (ai (aa HB3) hb4);rcases hans with ⟨a5,n5,c5,rfl,hm⟩|⟨rfl,hm⟩
 ·have HM:=hide hm;clear hm hb4;go_wp2
  exact bodyPost_ret (v:=.tuple #[.agg #[.slice a5 n5 c5],.int .i64 0]) (by simp [results,Tryz.results63,go_sem,hcx]) rfl ⟨Or.inl ⟨_,_,_,rfl,(aa HM).setBox hX4 _⟩,(aa HB4).setCell (Nat.le_add_right _ 1) _⟩
 ·have HM:=hide hm;clear hm hb4;go_wp2
  exact bodyPost_ret (v:=.tuple #[.agg #[.slice none 0 0],.int .i64 4]) (by simp [results,Tryz.results63,go_sem,hcx]) rfl ⟨Or.inr ⟨rfl,aa HM⟩,(aa HB4).setCell (Nat.le_add_right _ 1) _⟩
theorem xz(m:Nat):∃j,Bl m j:=by
 induction m using Nat.strongRecOn with
 | ind m ih=>
  by_cases h:m=0
  ·exact ⟨0,by subst h;exact mf⟩
  ·obtain ⟨j,h1,h2⟩:=ih (m/2) (by omega);refine ⟨j+1,by rw [Nat.pow_succ];omega,Or.inr ?_⟩;rw [Nat.add_sub_cancel];rcases h2 with h2|h2
   ·subst h2;simp;omega
   ·by_cases hj:j=0
    ·subst hj;simp;omega
    ·have:2^j=2^(j-1)*2:=by rw [←Nat.pow_succ];congr 1;omega
     omega
theorem qZ(a:Option Addr)(n cap m k:Nat)(w:World)(h:Num w a n m)(hk:k<9223372036854775808) :
  Calls Tryz.prog 63 #[.agg #[.slice a n cap],.int .i64 (k:Int)] w fun e w'=>ib w' w.heap.size e (m*2^k)∧Below w.heap.size w w':=by
 by_cases hm:m=0
 ·subst hm;obtain rfl:=h.zero.2 rfl;refine (DZ a cap k w).mono ?_;rintro e w' ⟨rfl,hb⟩;rw [Nat.zero_mul];exact ⟨Or.inl ⟨none,0,0,rfl,[],rfl,Or.inl ⟨rfl,rfl⟩,Pl.wf_nil,Pl.norm_nil,rfl,by omega⟩,hb⟩
 ·obtain ⟨j,hj⟩:=xz m;by_cases hkj:k+j≤524288
  ·exact Jh a n cap m k j w h (by omega) hj hkj
  ·refine (Dz a n cap m k j w h (by omega) hj (by omega) hk).mono ?_;rintro e w' ⟨rfl,hb⟩;refine ⟨Or.inr ⟨rfl,⟨?_⟩⟩,hb⟩;have hj0:j≠0:=fun e=>by subst e;have:=hj.1;simp at this;omega
   have h2:=hj.2.resolve_left hj0;rw [oJ];have h3:2^(32*Pl.top)≤2^(j-1+k):=Nat.pow_le_pow_right (by decide) (by rw [Pl.top_eq];omega);rw [Nat.pow_add] at h3;exact Nat.le_trans h3 (Nat.mul_le_mul_right _ h2)
theorem tF(a:Option Addr)(n cap m k:Nat)(w:World)(h:Num w a n m)(hcap:n≤cap)(hcap2:cap≤9223372036854775807)(hk:k<9223372036854775808) :
  Calls Tryz.prog 101 #[.agg #[.slice a n cap],.int .i64 (k:Int)] w fun e w'=>(∃a' n' c',e = .returned (.tuple #[.agg #[.slice a' n' c'],.int .i64 0])∧Mine w' w.heap.size a' n' c' (m/2^k))∧Below w.heap.size w w':=by
 have HS:=hide (fun w1 h=>fM a n cap m k w1 h hcap hcap2 hk);have HK:=hide (fun (o1 o2:Obj)=>cK a n cap m ((w.alloc o1).alloc o2) ((h.alloc o1).alloc o2));have H:=hide h;clear h hcap hcap2;go_enter Tryz.func101,Tryz.ntmps101
 go_wp2_with fail
 refine (aa HK _ _).mono ?_;rintro e w1 ⟨rfl,hb1⟩;have hbx:=((aQ.made w (.slice a n cap)).alloc (.cells #[.slice none 0 0] 27)).kept hb1;have hby:=(aQ.made (w.alloc (.cells #[.slice a n cap] 27)) (.slice none 0 0)).kept hb1;simp only [World.size_alloc] at hby
 have hcx:=hbx.cell;have HB:=hide (ai (ai (ah w (.cells #[.slice a n cap] 27)) (ah _ (.cells #[.slice none 0 0] 27))) hb1);clear hb1 HK;go_wp2_with fail
 refine (aa HS _ ((aa H).kept (aa HB))).mono ?_;rintro e w2 ⟨⟨a2,n2,c2,rfl,hm2⟩,hb2⟩;have hX2:=hby.kept hb2;have hcx:=hX2.cell;have hfx:=hX2.frozen;have HM:=hide (hm2.mono (aa HB).size);have HB2:=hide (ai (aa HB) hb2);clear hm2 hb2;go_wp2
 exact bodyPost_ret (v:=.tuple #[.agg #[.slice a2 n2 c2],.int .i64 0]) (by simp [results,Tryz.results101,go_sem,hcx]) rfl ⟨⟨_,_,_,rfl,(aa HM).setBox hX2 _⟩,(aa HB2).setCell (Nat.le_add_right _ 1) _⟩
theorem uC(e:Nat)(h:e<4294967296):Go.bits .and .u32 (e:Int) 1=((e%2:Nat):Int):=by
 have h1:(BitVec.ofInt 32 (e:Int)).toNat=e:=by
  rw [BitVec.ofInt_natCast,BitVec.toNat_ofNat];exact Nat.mod_eq_of_lt (by omega)
 show IntKind.u32.wrap ((BitVec.ofInt 32 (e:Int)&&&BitVec.ofInt 32 1).toNat:Int)=_
 rw [BitVec.toNat_and,h1,show (BitVec.ofInt 32 1).toNat=1 from rfl,Nat.and_one_is_mod,IntKind.wrap_u32];omega
theorem sI{a b:Bool}{v:Value}(h:a=b):Ending.returned (.tuple #[.bool a,v]) = .returned (.tuple #[.bool b,v]):=by rw [h]
theorem Em(z:Nat):(((z%2:Nat):Int)==1)=decide (z%2=1):=by
 rw [Bool.eq_iff_iff,beq_iff_eq,decide_eq_true_eq];omega
theorem EG{xs:List Nat}(hw:Pl.Wf xs)(k:Nat):Pl.val xs/2^k%2=xs[k/32]?.getD 0/2^(k%32)%2:=by
 have e:2^k=4294967296^(k/32)*2^(k%32):=by
  rw [show (4294967296:Nat)=2^32 from rfl,←Nat.pow_mul,←Nat.pow_add]
  congr 1;omega
 have hd:Pl.val xs/4294967296^(k/32)=Pl.val (xs.drop (k/32)):=by
  by_cases h:k/32≤xs.length
  ·have hlo:=Pl.val_lt (Pl.wf_take hw (k/32));rw [List.length_take,Nat.min_eq_left h] at hlo;rw [Pl.val_split xs (k/32) h,Nat.add_comm,Nat.mul_add_div (Nat.lt_of_le_of_lt (Nat.zero_le _) hlo),Nat.div_eq_of_lt hlo,Nat.add_zero]
  ·have h1:=Pl.val_lt hw;have h2:=Pl.pow_le (show xs.length≤k/32 by omega);rw [List.drop_eq_nil_of_le (by omega),Nat.div_eq_of_lt (Nat.lt_of_lt_of_le h1 h2)];rfl
 rw [e,←Nat.div_div_eq_div_mul,hd,vM xs hw (k/32)];generalize Pl.val (xs.drop (k/32))=V;have hp:k%32<32:=by omega
 generalize k%32=p at *;have hs:=jP hp;have hQ:2^(32-p)=2*2^(31-p):=by rw [show 32-p=(31-p)+1 by omega,Nat.pow_succ,Nat.mul_comm]
 rw [hs,Nat.mod_mul_right_div_self,hQ,Nat.mod_mul_right_mod]
theorem qf(a:Option Addr)(n cap m k:Nat)(w:World)(h:Num w a n m)(hk:k<9223372036854775808) :
  Calls Tryz.prog 103 #[.agg #[.slice a n cap],.int .i64 (k:Int)] w fun e w'=>e = .returned (.tuple #[.bool (decide (m/2^k%2=1)),.int .i64 0])∧Below w.heap.size w w':=by
 have HK:=hide (fun (o1:Obj)=>cK a n cap m (w.alloc o1) (h.alloc o1));obtain ⟨xs,hn,hl,hw,hN,hv,hb⟩:=h;have hbr:=EG hw k;rw [hv] at hbr;have hq:(k:Int)/32=((k/32:Nat):Int):=by omega
 have hwk:k/32<288230376151711744:=by omega
 obtain ⟨pt,hpt⟩:∃pt,pt=k%32:=⟨_,rfl⟩;have hpk:pt<32:=by omega
 have hr:(k:Int)%32=(pt:Int):=by omega
 rw [←hpt] at hbr;have HP:=hide hpt.symm;obtain ⟨wh,hwh⟩:∃wh,wh=k/32:=⟨_,rfl⟩;rw [←hwh] at hq hbr hwk;by_cases hlt:wh<n
 ·rcases hl.parts with hx|⟨hp,b,off,rfl,hltb,hc⟩
  ·rw [hx] at hn;simp at hn;omega
  ·obtain ⟨x,hxx⟩:∃x,x=xs[wh]?.getD 0:=⟨_,rfl⟩;have hx1:x<4294967296:=by rw [hxx];exact Pl.wf_at hw wh
   have hcx0:=hc wh (by omega);rw [←hxx] at hcx0 hbr;have HBR:=hide hbr;have hdl:¬(n:Int)≤(wh:Int):=by omega
   clear hbr hc hxx hwh hn hv hN hl hpt;go_enter Tryz.func103,Tryz.ntmps103
   go_wp2_with fail
   refine (aa HK _).mono ?_;rintro e w1 ⟨rfl,hb1⟩;have hbx:=(aQ.made w (.slice (some ⟨b,off,none⟩) n cap)).kept hb1;have hcx:=hbx.cell;have HB:=hide (ai (ah w (.cells #[.slice (some ⟨b,off,none⟩) n cap] 27)) hb1);have hcx1:w1.cell? ⟨b,off+wh,none⟩=some (.int .u32 (x:Int)):=((aa HB).cell (by exact hltb)).trans hcx0;clear hb1 HK hcx0;go_wp2
   go_ret2
   refine ⟨sI ?_,aa HB⟩;rw [show (x:Int)/2^pt=((x/2^pt:Nat):Int) by rw [Int.natCast_ediv,Int.natCast_pow];rfl,uC _ (Nat.lt_of_le_of_lt (Nat.div_le_self _ _) hx1),aa HBR,Em]
 ·have hbz:m/2^k%2=0:=by
   rw [hbr,List.getElem?_eq_none (by omega)];simp
  have HBR:=hide hbz;have hdl:(n:Int)≤(wh:Int):=by omega
  clear hbr hbz hwh hn hv hN hl hpt hlt;go_enter Tryz.func103,Tryz.ntmps103
  go_wp2_with fail
  refine (aa HK _).mono ?_;rintro e w1 ⟨rfl,hb1⟩;have hbx:=(aQ.made w (.slice a n cap)).kept hb1;have hcx:=hbx.cell;have HB:=hide (ai (ah w (.cells #[.slice a n cap] 27)) hb1);clear hb1 HK;go_wp2
  go_ret2
  refine ⟨sI ?_,aa HB⟩;rw [aa HBR];rfl
theorem zh(n j:Nat)(h:n/2^j%2=0):n/2^(j+1)+n/2^(j+1)=n/2^j:=by
 rw [Nat.pow_succ,←Nat.div_div_eq_div_mul];omega
theorem sS(n j:Nat)(h:¬n/2^j%2=0):n/2^(j+1)+n/2^(j+1)+1=n/2^j:=by
 rw [Nat.pow_succ,←Nat.div_div_eq_div_mul];omega
theorem pow_odd(m a:Nat):m^a*m^a*m=m^(a+a+1):=by rw [Nat.pow_succ,Nat.pow_add]
theorem jb(n j:Nat):n/2^j≤n:=Nat.div_le_self _ _
theorem qp{m a b:Nat}(hm:1≤m)(h:a≤b)(hL:Over (m^a)):Over (m^b):=⟨Nat.le_trans hL.le (Nat.pow_le_pow_right hm h)⟩
theorem uN(a:Option Addr)(l cap m n:Nat)(w:World)(h:Num w a l m)(hm:1≤m)(hn:n≤1073741824) :
  Calls Tryz.prog 116 #[.agg #[.slice a l cap],.int .i64 (n:Int)] w fun e w'=>ib w' w.heap.size e (m^n)∧Below w.heap.size w w':=by
 go_enter Tryz.func116,Tryz.ntmps116
 go_wp2_with fail
 refine (dD 1 _ (by omega)).mono ?_;rintro e w1 ⟨⟨a1,n1,c1,rfl,h1⟩,hb1⟩;obtain ⟨hc1,hf1⟩:=bO hb1;go_wp2_with fail
 refine (EH n _ (by omega)).mono ?_;rintro e w2 ⟨rfl,rfl⟩;have hle:Lib.bitLen n≤31:=Lib.bitLen_le n 31 (by decide) (by omega);go_wp2_with fail
 have hs1:w.heap.size+1<w1.heap.size:=by have:=hb1.size;simp at this;omega
 have hB0:=hide (ai (ai (ai (ah _ _) (ah _ _)) hb1) (ah w1 (.cells #[.slice a1 n1 c1] 27)));have hq0:=hide ((((aQ.made w (.slice a l cap)).alloc (.cells #[.slice none 0 0] 27)).kept hb1).alloc (.cells #[.slice a1 n1 c1] 27));have hr0:=hide (((aQ.made (w.alloc (.cells #[.slice a l cap] 27)) (.slice none 0 0)).kept hb1).alloc (.cells #[.slice a1 n1 c1] 27));have hm0:=hide ((h1.mono (show w.heap.size≤_ by simp;omega)).alloc (.cells #[.slice a1 n1 c1] 27));have hn0:=hide ((((h.alloc _).alloc _).kept hb1).alloc (.cells #[.slice a1 n1 c1] 27));clear h h1 hb1 hc1 hf1
 go_loopw [7] (fun t wr=>∃(k:Nat) (ap:Option Addr) (np cp:Nat),k≤31∧t = .int .i64 ((k:Int)-1)∧aQ wr w1.heap.size (.slice ap np cp)∧Mine wr w.heap.size ap np cp (m^(n/2^k)) ∧
   aQ wr w.heap.size (.slice a l cap)∧aQ wr (w.heap.size+1) (.slice none 0 0)∧Num wr a l m∧Below w.heap.size w wr) (fun t _=>(intOf t+1).toNat)
 case atStart=>
  have hz:n/2^Lib.bitLen n=0:=Nat.div_eq_of_lt (iI 64 n (by omega) (by omega)).1;refine ⟨Lib.bitLen n,a1,n1,c1,hle,rfl,aQ.made _ _,?_,aa hq0,?_,aa hn0,aa hB0⟩
  ·rw [hz];exact aa hm0
  ·have:=aa hr0;simpa using this
 case round=>
  obtain ⟨k,ap,np,cp,hk,rfl,hbp,hmp,hbq,hbr,hnb,hbel⟩:=hrel;have hcp:=hbp.cell;have hfp:=hbp.frozen;have hcq:=hbq.cell;have hcr:=hbr.cell;have hfr:=hbr.frozen;by_cases hk0:k=0
  ·subst hk0;have HM:=hide hmp;have HB:=hide hbel;clear hmp hbel;go_wp2
   have hM:=aa HM;rw [Nat.pow_zero,Nat.div_one] at hM;exact bodyPost_ret (v:=.tuple #[.agg #[.slice ap np cp],.int .i64 0]) (by simp [results,Tryz.results116,go_sem,hcr]) rfl ⟨Or.inl ⟨_,_,_,rfl,hM.setBox hbr _⟩,(aa HB).setCell (by simp) _⟩
  ·obtain ⟨j,rfl⟩:∃j,k=j+1:=⟨k-1,by omega⟩;have hnp:=hmp.num;go_wp2_with fail
   refine (j6 ap ap np np cp cp _ _ wr hnp hnp).mono ?_;rintro e w2 ⟨hans,hb2⟩;have hs2:w1.heap.size<w2.heap.size:=Nat.lt_of_lt_of_le hbp.lt hb2.size;have hs3:w.heap.size+1<w2.heap.size:=by omega
   have hbp2:=hbp.kept hb2;have hbq2:=hbq.kept hb2;have hbr2:=hbr.kept hb2;have hcp2:=hbp2.cell;have hfp2:=hbp2.frozen;have hcq2:=hbq2.cell;have hcr2:=hbr2.cell;have hfr2:=hbr2.frozen;rcases hans with ⟨a2,n2,c2,rfl,hm2⟩|⟨rfl,hbig⟩
   ·have HB:=hide (ai hbel hb2);have HM:=hide hm2;have HN:=hide (hnb.kept hb2);have hm2':=(hm2.mono (show w.heap.size≤wr.heap.size from hbel.size));have HM2:=hide hm2';have HBq3:=hide ((hbq2.other (a:=⟨w1.heap.size,0,none⟩) (show w.heap.size≠w1.heap.size by omega) (.slice a2 n2 c2)).alloc (.cells #[.slice a2 n2 c2] 27));have HBr3:=hide ((hbr2.other (a:=⟨w1.heap.size,0,none⟩) (show w.heap.size+1≠w1.heap.size by omega) (.slice a2 n2 c2)).alloc (.cells #[.slice a2 n2 c2] 27));have HBp3:=hide ((hbp2.set (.slice a2 n2 c2)).alloc (.cells #[.slice a2 n2 c2] 27));have HM3:=hide ((hm2'.setBox hbp2 (.slice a2 n2 c2)).alloc (.cells #[.slice a2 n2 c2] 27));have HN3:=hide (((hnb.kept hb2).setBox hbp2 (.slice a2 n2 c2)).alloc (.cells #[.slice a2 n2 c2] 27));have HB3:=hide (((ai hbel hb2).setCell (p:=⟨w1.heap.size,0,none⟩) (show w.heap.size≤w1.heap.size by omega) (.slice a2 n2 c2)).alloc (show w.heap.size≤(w2.setCell ⟨w1.heap.size,0,none⟩ (.slice a2 n2 c2)).heap.size by have:=hbp2.lt;simp;omega) (.cells #[.slice a2 n2 c2] 27));have hcq3:=(aa HBq3).cell;clear hbel hb2 hm2 hm2' hnb hmp hnp hbp hbq hbr hcp hfp hcq hcr hfr;by_cases hpar:n/2^j%2=0
    ·have hbit:(Go.bits BinOp.and IntKind.i64 ((n:Int)/2^j) 1==0)=true:=by
      have e:(n:Int)/2^j=((n/2^j:Nat):Int):=by simp
      rw [e,mX _ (Nat.lt_of_le_of_lt (jb n j) (by omega)),hpar];rfl
     have HP:=hide hpar;clear hpar;go_wp2
     go_roundw
     case rel=>
      refine ⟨j,a2,n2,c2,by omega,rfl,aa HBp3,?_,aa HBq3,aa HBr3,aa HN3,aa HB3⟩;have:=aa HM3
      rwa [←Nat.pow_add,zh n j (aa HP)] at this
     case measure=>simp [intOf]
    ·have hbit:(Go.bits BinOp.and IntKind.i64 ((n:Int)/2^j) 1==0)=false:=by
      have e:(n:Int)/2^j=((n/2^j:Nat):Int):=by simp
      rw [e,mX _ (Nat.lt_of_le_of_lt (jb n j) (by omega))];simp;omega
     have HP:=hide hpar;clear hpar;go_wp2_with fail
     refine (j6 a2 a n2 l c2 cap _ _ _ (aa HM3).num (aa HN3)).mono ?_;rintro e w4 ⟨hans,hb4⟩;have hbp4:=(aa HBp3).kept hb4;have hbq4:=(aa HBq3).kept hb4;have hbr4:=(aa HBr3).kept hb4;have HB4:=hide (ai (aa HB3) hb4);have HN4:=hide ((aa HN3).kept hb4);have hcp4:=hbp4.cell;have hfp4:=hbp4.frozen;have hcr4:=hbr4.cell;have hfr4:=hbr4.frozen;rcases hans with ⟨a5,n5,c5,rfl,hm5⟩|⟨rfl,hbig⟩
     ·have hm5':=hm5.mono (show w.heap.size≤_ from (aa HB3).size);have HM5:=hide (hm5'.setBox hbp4 (.slice a5 n5 c5));have HBp5:=hide (hbp4.set (.slice a5 n5 c5));have HBq5:=hide (hbq4.other (a:=⟨w1.heap.size,0,none⟩) (show w.heap.size≠w1.heap.size by omega) (.slice a5 n5 c5));have HBr5:=hide (hbr4.other (a:=⟨w1.heap.size,0,none⟩) (show w.heap.size+1≠w1.heap.size by omega) (.slice a5 n5 c5));have HN5:=hide ((aa HN4).setBox hbp4 (.slice a5 n5 c5));have HB5:=hide ((aa HB4).setCell (p:=⟨w1.heap.size,0,none⟩) (show w.heap.size≤w1.heap.size by omega) (.slice a5 n5 c5));clear hm5 hm5' hb4;go_wp2
      go_roundw
      case rel=>
       refine ⟨j,a5,n5,c5,by omega,rfl,aa HBp5,?_,aa HBq5,aa HBr5,aa HN5,aa HB5⟩;have:=aa HM5
       rwa [pow_odd,sS n j (aa HP)] at this
      case measure=>simp [intOf]
     ·have HO:=hide hbig;clear hbig hb4;go_wp2
      refine bodyPost_ret (v:=.tuple #[.agg #[.slice none 0 0],.int .i64 4]) (by simp [results,Tryz.results116,go_sem,hcr4]) rfl ⟨Or.inr ⟨rfl,?_⟩,((aa HB4).setCell (p:=⟨w1.heap.size,0,none⟩) (show w.heap.size≤w1.heap.size by omega) _).setCell (by simp) _⟩;have:=aa HO;rw [pow_odd,sS n j (aa HP)] at this;exact qp hm (jb n j) this
   ·have HB:=hide (ai hbel hb2);have HM:=hide hbig;clear hbel hb2 hbig hnb hmp hnp hbp hbq hbr hcp hfp hcq hcr hfr;go_wp2
    refine bodyPost_ret (v:=.tuple #[.agg #[.slice none 0 0],.int .i64 4]) (by simp [results,Tryz.results116,go_sem,((hbr2.set (.slice none 0 0)).alloc (.cells #[.slice none 0 0] 27)).cell]) rfl ⟨Or.inr ⟨rfl,?_⟩,ai ((aa HB).setCell (p:=⟨w.heap.size+1,0,none⟩) (by simp) _) (ah _ _)⟩;have:=aa HM;rw [←Nat.pow_add] at this;refine qp hm ?_ this;have h1:=jb n j;have h2:n/2^(j+1)=n/2^j/2:=by rw [Nat.pow_succ,←Nat.div_div_eq_div_mul]
    omega
theorem tq{b n:Nat}(hb:2≤b)(hn:524288≤n):Over (b^n):=by
 constructor;have h:32*Pl.top≤n:=by rw [Pl.top_eq];omega
 rw [oJ];exact Nat.le_trans (Nat.pow_le_pow_right (by decide) h) (Nat.pow_le_pow_left hb n)
theorem vZ(b n:Nat)(w:World)(hb:b<4294967296)(hn:n<9223372036854775808) :
  Calls Tryz.prog 75 #[.int .u32 (b:Int),.int .i64 (n:Int)] w fun e w'=>ib w' w.heap.size e (b^n)∧Below w.heap.size w w':=by
 by_cases h1:n=0∨b=1
 ·have hv:b^n=1:=by rcases h1 with rfl|rfl<;>simp
  rw [hv];have hd:((n:Int)==0)=true∨((n:Int)==0)=false∧((b:Int)==1)=true:=by
   rcases h1 with h|h
   ·left;simp [h]
   ·by_cases hn:n=0
    ·left;simp [hn]
    ·right;simp [h,hn]
  clear h1 hv;rcases hd with hd|⟨hd,hd2⟩;all_goals
   go_enter Tryz.func75,Tryz.ntmps75
   go_wp2_with fail
   refine (dD 1 _ (by omega)).mono ?_;rintro e w1 ⟨⟨a1,n1,c1,rfl,hm⟩,hb1⟩;have hbx:=(aQ.made w (.slice none 0 0)).kept hb1;have hc1:=hbx.cell;have hf1:=hbx.frozen;go_wp2
   exact bodyPost_ret (v:=.tuple #[.agg #[.slice a1 n1 c1],.int .i64 0]) (by simp [results,Tryz.results75,go_sem,hc1]) rfl ⟨Or.inl ⟨_,_,_,rfl,(hm.mono (by simp)).setBox hbx _⟩,(ai (ah _ _) hb1).setCell (by simp) _⟩
 ·have hn0:((n:Int)==0)=false:=by simp;omega
  have hb1:((b:Int)==1)=false:=by simp;omega
  by_cases hb0:b=0
  ·subst hb0;have hv:0^n=0:=Nat.zero_pow (by omega);rw [hv];clear hv h1;go_enter Tryz.func75,Tryz.ntmps75
   go_wp2
   exact bodyPost_ret (v:=.tuple #[.agg #[.slice none 0 0],.int .i64 0]) (by simp [results,Tryz.results75,go_sem]) rfl ⟨Or.inl ⟨_,_,_,rfl,nE _ _⟩,ah _ _⟩
  ·have hb0':((b:Int)==0)=false:=by simp;omega
   by_cases hbig:524288≤n
   ·have hO:=tq (b:=b) (by omega) hbig;have HO:=hide hO;have hbigI:(524288:Int)≤(n:Int):=by omega
    clear hO h1 hbig;go_enter Tryz.func75,Tryz.ntmps75
    go_wp2
    exact bodyPost_ret (v:=.tuple #[.agg #[.slice none 0 0],.int .i64 4]) (by simp [results,Tryz.results75,go_sem]) rfl ⟨Or.inr ⟨rfl,aa HO⟩,ah _ _⟩
   ·have hbigI:¬(524288:Int)≤(n:Int):=by omega
    clear h1 hbig;go_enter Tryz.func75,Tryz.ntmps75
    go_wp2_with fail
    refine (dD b _ (by omega)).mono ?_;rintro e w1 ⟨⟨a1,n1,c1,rfl,hm⟩,hw1⟩;have HX:=hide ((aQ.made w (.slice none 0 0)).kept hw1);have HM:=hide hm;have HB:=hide (ai (ah w (.cells #[.slice none 0 0] 27)) hw1);clear hm hw1;go_wp2_with fail
    refine (uN a1 n1 c1 b n _ (aa HM).num (by omega) (by omega)).mono ?_;rintro e w2 ⟨hans,hw2⟩;have hbx:=(aa HX).kept hw2;have hc2:=hbx.cell;have hf2:=hbx.frozen;have HB2:=hide (ai (aa HB) hw2);rcases hans with ⟨a2,n2,c2,rfl,hm2⟩|⟨rfl,hO⟩
    ·have HM2:=hide (hm2.mono (show w.heap.size≤w1.heap.size from (aa HB).size));clear hm2 hw2;go_wp2
     exact bodyPost_ret (v:=.tuple #[.agg #[.slice a2 n2 c2],.int .i64 0]) (by simp [results,Tryz.results75,go_sem,hc2]) rfl ⟨Or.inl ⟨_,_,_,rfl,(aa HM2).setBox hbx _⟩,(aa HB2).setCell (by simp) _⟩
    ·have HO:=hide hO;clear hO hw2;go_wp2
     exact bodyPost_ret (v:=.tuple #[.agg #[.slice none 0 0],.int .i64 4]) (by simp [results,Tryz.results75,go_sem,hc2]) rfl ⟨Or.inr ⟨rfl,aa HO⟩,(aa HB2).setCell (by simp) _⟩
end Go.Proofs.YtaidedkpfnidpaaGreatDoor
