/- Of what RoundIntegerRow stands on: ExMake ExWorth. -/
import Derived.Test.YtfjegmlpkiaifaaGreatDoorPao
import Derived.Test.YtfjegmlpkiaifaaGreatDoorPak
import Derived.Test.YtfjegmlpkiaifaaGreatDoorPap
namespace Go.Proofs.YtfjegmlpkiaifaaGreatDoor
open Go.RowKit
set_option maxHeartbeats 1000000
theorem Tz.uniq {m y z:Nat} (h:Tz m y) (k:Tz m z):y = z:=by
 obtain ⟨p,hp⟩:=h
 obtain ⟨q,hq⟩:=k
 rcases Nat.lt_trichotomy y z with hlt|rfl|hlt
 ·exfalso
  obtain ⟨d,rfl⟩:∃ d,z = y+(d+1):=⟨z - y - 1,by omega⟩
  rw [hp,Nat.pow_add,Nat.mul_assoc] at hq
  have:=Nat.eq_of_mul_eq_mul_left (Nat.pow_pos (by decide:0 < 2)) hq
  rw [Nat.pow_succ,Nat.mul_right_comm] at this
  omega
 ·rfl
 ·exfalso
  obtain ⟨d,rfl⟩:∃ d,y = z+(d+1):=⟨y - z - 1,by omega⟩
  rw [hp,Nat.pow_add,Nat.mul_assoc] at hq
  have:=Nat.eq_of_mul_eq_mul_left (Nat.pow_pos (by decide:0 < 2)) hq
  rw [Nat.pow_succ,Nat.mul_right_comm] at this
  omega
theorem twosIn_z (a:Option Addr) (n cap m z:Nat) (w:World) (h:Num w a n m) (hm:0 < m) (hT:Tb w) (hz:Tz m z) :
  Calls Tryz.prog 118 #[.agg #[.slice a n cap]] w fun e w'=>e = .returned (.int .i64 (z:Int))∧Below w.heap.size w w':=by
 refine (twosIn_any a n cap m w h hm hT).mono ?_
 rintro e w' ⟨⟨y,rfl,hy,_⟩,hb⟩
 obtain rfl:=hy.uniq hz
 exact ⟨rfl,hb⟩
theorem make_ok (s:Bool) (a:Option Addr) (n cap m z:Nat) (x:Int) (w:World) (h:Num w a n m) (hm:0 < m) (hT:Tb w) (hz:Tz m z) (hz2:z < 524288) (hcap:n≤cap) (hcap2:cap≤9223372036854775807) (hx:-1073741824≤x+z∧x+z≤1073741824) :
  Calls Tryz.prog 82 #[.bool s,.agg #[.slice a n cap],.int .i64 x] w fun e w'=>(∃ A N C,e = .returned (.tuple #[.agg #[.bool s,.slice A N C,.int .i64 (x+(z:Int))],.int .i64 0])∧Mine w' w.heap.size A N C (m / 2 ^ z))∧Below w.heap.size w w':=by
 have hn0:0 < n:=by have:=h.zero; omega
 have H:=hide h
 have HM:=hide hm
 have HT:=hide hT
 have HZ:=hide hz
 clear h hm hT hz
 go_enter Tryz.func82,Tryz.ntmps82
 go_wp2_with fail
 refine (check_num a n cap m _ (((unhide H).alloc _).alloc _)).mono ?_
 rintro e w1 ⟨rfl,hb1⟩
 have hS:=(Fs.two w _ _ _ _).kept hb1
 obtain ⟨⟨ya,-⟩,⟨yb,yc,yd,-⟩,-⟩:=hS.cells
 go_wp2_with fail
 refine (isNought_no a n cap hn0 _).mono ?_
 rintro e w2 ⟨rfl,hb2⟩
 replace hS:=hS.kept hb2
 clear ya yb yc yd
 obtain ⟨⟨ye,-⟩,⟨yf,yg,yh,-⟩,-⟩:=hS.cells
 go_wp2_with fail
 refine (twosIn_z a n cap m z _ ((unhide H).kept hS.fr) (unhide HM) ((unhide HT).kept hS.fr) (unhide HZ)).mono ?_
 rintro e w3 ⟨rfl,hb3⟩
 replace hS:=hS.kept hb3
 clear ye yf yg yh
 obtain ⟨⟨yi,-⟩,⟨yj,yk,yl,-⟩,-⟩:=hS.cells
 have hltw3_0:w.heap.size < w3.heap.size:=hS.lt 0 rfl
 have hltw3_1:w.heap.size+1 < w3.heap.size:=hS.lt 1 rfl
 go_wp2_with fail
 refine (down_any a n cap m z _ ((unhide H).kept hS.fr) hcap hcap2 (by omega)).mono ?_
 rintro e w4 ⟨⟨A4,N4,C4,rfl,f4⟩,hb4⟩
 replace hS:=hS.kept hb4
 clear yi yj yk yl
 obtain ⟨⟨ym,-⟩,⟨yn,yo,yp,-⟩,-⟩:=hS.cells
 have hltw4_0:w.heap.size < w4.heap.size:=hS.lt 0 rfl
 have hltw4_1:w.heap.size+1 < w4.heap.size:=hS.lt 1 rfl
 have F4:=hide f4
 clear f4
 have Q_:=hS.frozen (b:=w.heap.size+1) (cs:=#[.bool false,.slice none 0 0,.int .i64 0]) (t:=61) (by simp)
 have fz0:=Q_ 0
 have fz1:=Q_ 1
 have fz2:=Q_ 2
 clear Q_
 go_wp2
 have hB:=fun u0 u1 u2=>((hS.fr.setCell (p:=⟨w.heap.size+1,0,none⟩) (by simp) u0).setCell (p:=⟨w.heap.size+1,1,none⟩) (by simp) u1).setCell (p:=⟨w.heap.size+1,2,none⟩) (by simp) u2
 exact bodyPost_ret (v:=.tuple #[.agg #[.bool s,.slice A4 N4 C4,.int .i64 (x+(z:Int))],.int .i64 0]) (by simp [results,Tryz.results82,go_sem,yn,yo,yp,hltw4_1]) rfl
  ⟨⟨_,_,_,rfl,(((((unhide F4).set (by exact hltw3_1) _).set (by exact hltw3_1) _).set (by exact hltw3_1) _).alloc _).mono (by omega)⟩,(hB _ _ _).alloc (hB _ _ _).size _⟩
theorem st_mine (base:Nat) (a:Option Addr) (n c m:Nat):St base (fun W=>Mine W base a n c m):=⟨fun _ _ hb h=>h.kept hb,fun _ _ u hp h=>h.set hp u⟩
end Go.Proofs.YtfjegmlpkiaifaaGreatDoor
