/- Of what NearRoundsRow stands on: ExTwos. -/
import Derived.Test.YtaidedkpfnidpaaGreatDoorPah
import Derived.Lib.TrailingZeros
import Derived.Deep.LoopGhost
namespace Go.Proofs.YtaidedkpfnidpaaGreatDoor
open Go.RowKit
set_option maxHeartbeats 1000000
def Tb(w:World):Prop:=1<w.heap.size∧∀j,j<32→w.cell? ⟨1,j,none⟩=some (.int .u8 ((Lib.deBruijn32tab.getD j 0:Nat):Int))
theorem Tb.kept{w w':World}(h:Tb w)(hb:Below w.heap.size w w'):Tb w':=
 ⟨Nat.lt_of_lt_of_le h.1 hb.size,fun j hj=>(hb.cell (p:=⟨1,j,none⟩) h.1).trans (h.2 j hj)⟩
theorem Tb.alloc{w:World}(h:Tb w)(o:Obj):Tb (w.alloc o):=h.kept (ah _ _)
def Tz(m z:Nat):Prop:=∃q,m=2^z*(2*q+1)
theorem Tz.down{m z:Nat}(h:Tz m z):m/2^z%2=1∧m/2^z*2^z=m:=by
 obtain ⟨q,rfl⟩:=h;rw [Nat.mul_div_cancel_left _ (Nat.pow_pos (by decide))];exact ⟨by omega,Nat.mul_comm ..⟩
theorem Ez(x a:Nat)(hx:x<4294967296)(hx0:x≠0)(hlow:x&&&(4294967296-x)=a) :
  bits BinOp.and IntKind.u32 (x:Int) (-(x:Int)%4294967296)*125613361%4294967296/134217728=((a*125613361%4294967296/134217728:Nat):Int):=by
 have e1:-(x:Int)%4294967296=((4294967296-x:Nat):Int):=by omega
 have e2:bits BinOp.and IntKind.u32 (x:Int) ((4294967296-x:Nat):Int)=((x&&&(4294967296-x):Nat):Int):=by
  have hlt:x&&&(4294967296-x)<2^32:=Nat.and_lt_two_pow _ (by omega)
  show IntKind.u32.wrap ((BitVec.ofInt 32 (x:Int)&&&BitVec.ofInt 32 ((4294967296-x:Nat):Int)).toNat:Int)=_
  rw [BitVec.toNat_and,BitVec.ofInt_natCast,BitVec.ofInt_natCast,BitVec.toNat_ofNat,BitVec.toNat_ofNat,Nat.mod_eq_of_lt (by omega),Nat.mod_eq_of_lt (by omega)];simp only [IntKind.wrap,IntKind.signed,IntKind.bits];simp;omega
 rw [e1,e2,hlow];omega
theorem Dq(x k idx:Nat)(w:World)(hx0:((x:Int)==0)=false)(key:bits BinOp.and IntKind.u32 (x:Int) (-(x:Int)%4294967296)*125613361%4294967296/134217728=(idx:Int))(hi:idx<32)(hk:k<32)(hcell:w.cell? ⟨1,idx,none⟩=some (.int .u8 k)) :
  Calls Tryz.prog 132 #[.int .u32 x] w fun e w'=>e = .returned (.int .i64 k)∧w'=w:=by
 go_enter Tryz.func132,Tryz.ntmps132
 go_wp2_with (simp only [key])
 go_ret
 exact ⟨rfl,rfl⟩
theorem Bn(x:Nat)(w:World)(hx:x<4294967296)(hx0:x≠0)(hT:Tb w) :
  ∃k,k<32∧Tz x k∧Calls Tryz.prog 132 #[.int .u32 x] w fun e w'=>e = .returned (.int .i64 k)∧w'=w:=by
 obtain ⟨hlow,hk⟩:=Lib.lowest_bit 32 x hx0 hx;obtain ⟨q,hq,_⟩:=Lib.ctzFrom_spec 32 x (by omega) hx;have hcz:Lib.ctz 32 x=Lib.ctzFrom 32 x:=by unfold Lib.ctz;rw [if_neg hx0]
 obtain ⟨hi,htab⟩:=Lib.deBruijn32_at _ hk;have hcell:=hT.2 _ hi;rw [htab] at hcell;exact ⟨_,hk,⟨q,by rw [hcz];exact hq⟩,Dq x _ _ w (by simp;omega) (Ez x _ hx hx0 hlow) hi hk hcell⟩
theorem zx{xs:List Nat}{k:Nat}(hk:k<xs.length):Pl.val (xs.drop k)=xs[k]?.getD 0+4294967296*Pl.val (xs.drop (k+1)):=by
 rw [Pl.drop_cons xs k hk];rfl
theorem BV{M x r k z:Nat}(h:M=4294967296^k*(x+4294967296*r))(hz:Tz x z)(hz2:z<32):Tz M (k*32+z):=by
 obtain ⟨q,rfl⟩:=hz;obtain ⟨d,hd⟩:∃d,32=z+(d+1):=⟨31-z,by omega⟩;refine ⟨q+2^d*r,?_⟩;have e1:(4294967296:Nat)=2^z*(2^d*2):=by rw [←Nat.pow_succ,←Nat.pow_add,←hd]
 have e2:(4294967296:Nat)^k=2^(k*32):=by rw [Nat.mul_comm k 32,Nat.pow_mul]
 rw [h,e2,Nat.pow_add,Nat.mul_assoc]
 congr 1
 rw [e1,Nat.mul_assoc,←Nat.mul_add]
 congr 1
 rw [Nat.mul_add,Nat.mul_right_comm,Nat.mul_comm (2^d*r) 2,←Nat.mul_assoc];omega
theorem uD(b off n cap:Nat)(xs:List Nat)(w:World)(hxn:Hid (xs.length=n))(hlt:b<w.heap.size)(hx:Hid (Pl.Wf xs))(hbig:n≤16384)(hm:Hid (0<Pl.val xs))(hT:Hid (Tb w))(hc:∀j,j<n→w.cell? ⟨b,off+j,none⟩=some (.int .u32 ((xs[j]?.getD 0:Nat):Int))) :
  Calls Tryz.prog 100 #[.agg #[.slice (some ⟨b,off,none⟩) n cap]] w fun e w'=>(∃z:Nat,e = .returned (.int .i64 z)∧Tz (Pl.val xs) z∧z<524288)∧Below w.heap.size w w':=by
 go_enter Tryz.func100,Tryz.ntmps100
 go_wp2
 go_loopw [8] (fun t wr=>∃k:Nat,k≤n∧t = .int .i64 (k:Int)∧Pl.val xs=4294967296^k*Pl.val (xs.drop k)∧Below w.heap.size w wr) (fun t _=>(n-intOf t).toNat)
 case atStart=>exact ⟨0,Nat.zero_le _,rfl,by simp,ah _ _⟩
 case round=>
  obtain ⟨k,hk,rfl,hd,hbel⟩:=hrel;have hxl:=aa hxn;by_cases hkn:k=n
  ·exfalso;rw [List.drop_eq_nil_of_le (by omega)] at hd;have:=aa hm;simp [Pl.val] at hd;omega
  ·obtain ⟨x,hxx⟩:∃x,x=xs[k]?.getD 0:=⟨_,rfl⟩;have hcx:wr.cell? ⟨b,off+k,none⟩=some (.int .u32 (x:Int)):=by rw [hxx];exact (hbel.cell (by exact hlt)).trans (hc k (by omega))
   rw [zx (by omega),←hxx] at hd;have hx32:x<4294967296:=by
    rw [hxx,List.getElem?_eq_getElem (by omega)];exact aa hx _ (List.getElem_mem _)
   have HD:=hide hd;have hk1:(0:Int)≤(k:Int):=by omega
   have hk2:(k:Int)<(n:Int):=by omega
   have hkb:k<16384:=by omega
   clear hxx hd hxl hc;by_cases he:x=0
   ·have hne:((x:Int) != 0)=false:=by simp [he]
    have HE:=hide he;clear he;go_wp2
    go_roundw
    case rel=>exact ⟨k+1,by omega,by go_num,by
     have:=aa HD;rw [aa HE,Nat.zero_add,←Nat.mul_assoc,←Nat.pow_succ] at this;exact this,hbel⟩
    case measure=>simp [intOf];omega
   ·have hne:((x:Int) != 0)=true:=by simp;omega
    obtain ⟨z,hz,htz,hcall⟩:=Bn x wr hx32 he ((aa hT).kept hbel);have HC:=hide hcall;have HZ:=hide htz;clear he hcall htz;go_wp2_with fail
    refine (aa HC).mono ?_;rintro e w1 ⟨rfl,rfl⟩;go_wp2
    go_ret
    exact ⟨⟨k*32+z,bX (by omega),BV (aa HD) (aa HZ) hz,by omega⟩,hbel⟩
theorem xm(a:Option Addr)(n cap m:Nat)(w:World)(h:Num w a n m)(hm:0<m)(hT:Tb w) :
  Calls Tryz.prog 100 #[.agg #[.slice a n cap]] w fun e w'=>(∃z:Nat,e = .returned (.int .i64 z)∧Tz m z∧z<524288)∧Below w.heap.size w w':=by
 obtain ⟨xs,hl,hL,hw,hN,rfl,hb⟩:=h;rcases hL.parts with rfl|⟨hp,b,off,rfl,hlt,hc⟩
 ·simp [Pl.val] at hm
 ·exact uD b off n cap xs w (hide hl) hlt (hide hw) hb (hide hm) (hide hT) (fun j hj=>hc j (by omega))
end Go.Proofs.YtaidedkpfnidpaaGreatDoor
