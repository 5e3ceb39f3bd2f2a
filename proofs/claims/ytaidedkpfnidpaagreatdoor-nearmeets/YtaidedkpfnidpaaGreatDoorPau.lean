/- Of what NearMeetsRow stands on: ExMake ExWorth. -/
import Derived.Test.YtaidedkpfnidpaaGreatDoorPak
import Derived.Test.YtaidedkpfnidpaaGreatDoorPai
import Derived.Test.YtaidedkpfnidpaaGreatDoorPab
namespace Go.Proofs.YtaidedkpfnidpaaGreatDoor
open Go.RowKit
set_option maxHeartbeats 1000000
theorem Tz.uniq {m y z:Nat} (h:Tz m y) (k:Tz m z):y = z:=by
 obtain ⟨p,hp⟩:=h
 obtain ⟨q,hq⟩:=k
 rcases Nat.lt_trichotomy y z with hlt|rfl|hlt
 ·exfalso
  obtain ⟨d,rfl⟩:∃ d,z = y+(d+1):=⟨z - y - 1,by omega⟩
  rw [hp,Nat.pow_add,Nat.mul_assoc] at hq
  have:=Nat.eq_of_mul_eq_mul_left (Nat.pow_pos (by decide:0 < 2)) hq
  rw [Nat.pow_succ,Nat.mul_right_comm] at this
  omega
 ·rfl
 ·exfalso
  obtain ⟨d,rfl⟩:∃ d,y = z+(d+1):=⟨y - z - 1,by omega⟩
  rw [hp,Nat.pow_add,Nat.mul_assoc] at hq
  have:=Nat.eq_of_mul_eq_mul_left (Nat.pow_pos (by decide:0 < 2)) hq
  rw [Nat.pow_succ,Nat.mul_right_comm] at this
  omega
theorem twosIn_z (a:Option Addr) (n cap m z:Nat) (w:World) (h:Num w a n m) (hm:0 < m) (hT:Tb w) (hz:Tz m z) :
  Calls Tryz.prog 100 #[.agg #[.slice a n cap]] w fun e w'=>e = .returned (.int .i64 (z:Int))∧Below w.heap.size w w':=by
 refine (twosIn_any a n cap m w h hm hT).mono ?_
 rintro e w' ⟨⟨y,rfl,hy,_⟩,hb⟩
 obtain rfl:=hy.uniq hz
 exact ⟨rfl,hb⟩
theorem make_nought (s:Bool) (a:Option Addr) (cap:Nat) (x:Int) (w:World) (h:Num w a 0 0) :
  Calls Tryz.prog 53 #[.bool s,.agg #[.slice a 0 cap],.int .i64 x] w fun e w'=>e = .returned (.tuple #[.agg #[.bool false,.slice none 0 0,.int .i64 0],.int .i64 0])∧Below w.heap.size w w':=by
 have H:=hide h
 clear h
 go_enter Tryz.func53,Tryz.ntmps53
 go_wp2_with fail
 refine (check_num a 0 cap 0 _ (((unhide H).alloc _).alloc _)).mono ?_
 rintro e w1 ⟨rfl,hb1⟩
 have hS:=(Fs.two w _ _ _ _).kept hb1
 obtain ⟨⟨ya,-⟩,⟨yb,yc,yd,-⟩,-⟩:=hS.cells
 go_wp2_with fail
 refine (isNought_yes a cap _).mono ?_
 rintro e w2 ⟨rfl,hb2⟩
 replace hS:=hS.kept hb2
 clear ya yb yc yd
 obtain ⟨⟨ye,-⟩,⟨yf,yg,yh,-⟩,-⟩:=hS.cells
 have Q_:=hS.frozen (b:=w.heap.size+1) (cs:=#[.bool false,.slice none 0 0,.int .i64 0]) (t:=58) (by simp)
 have fz0:=Q_ 0
 have fz1:=Q_ 1
 have fz2:=Q_ 2
 clear Q_
 go_wp2
 exact bodyPost_ret (v:=.tuple #[.agg #[.bool false,.slice none 0 0,.int .i64 0],.int .i64 0]) (by simp [results,Tryz.results53,go_sem,yf,yg,yh]) rfl ⟨rfl,((hS.fr.setCell (by simp) _).setCell (by simp) _).setCell (by simp) _⟩
theorem make_above (s:Bool) (a:Option Addr) (n cap m z:Nat) (x:Int) (w:World) (h:Num w a n m) (hm:0 < m) (hT:Tb w) (hz:Tz m z) (hz2:z < 524288) (hx:1073741824 < x+z) :
  Calls Tryz.prog 53 #[.bool s,.agg #[.slice a n cap],.int .i64 x] w fun e w'=>e = .returned (.tuple #[.agg #[.bool false,.slice none 0 0,.int .i64 0],.int .i64 4])∧Below w.heap.size w w':=by
 have hn0:0 < n:=by have:=h.zero; omega
 have H:=hide h
 have HM:=hide hm
 have HT:=hide hT
 have HZ:=hide hz
 clear h hm hT hz
 go_enter Tryz.func53,Tryz.ntmps53
 go_wp2_with fail
 refine (check_num a n cap m _ (((unhide H).alloc _).alloc _)).mono ?_
 rintro e w1 ⟨rfl,hb1⟩
 have hS:=(Fs.two w _ _ _ _).kept hb1
 obtain ⟨⟨ya,-⟩,⟨yb,yc,yd,-⟩,-⟩:=hS.cells
 go_wp2_with fail
 refine (isNought_no a n cap hn0 _).mono ?_
 rintro e w2 ⟨rfl,hb2⟩
 replace hS:=hS.kept hb2
 clear ya yb yc yd
 obtain ⟨⟨ye,-⟩,⟨yf,yg,yh,-⟩,-⟩:=hS.cells
 go_wp2_with fail
 refine (twosIn_z a n cap m z _ ((unhide H).kept hS.fr) (unhide HM) ((unhide HT).kept hS.fr) (unhide HZ)).mono ?_
 rintro e w3 ⟨rfl,hb3⟩
 replace hS:=hS.kept hb3
 clear ye yf yg yh
 obtain ⟨⟨yi,-⟩,⟨yj,yk,yl,-⟩,-⟩:=hS.cells
 have Q_:=hS.frozen (b:=w.heap.size+1) (cs:=#[.bool false,.slice none 0 0,.int .i64 0]) (t:=58) (by simp)
 have fz0:=Q_ 0
 have fz1:=Q_ 1
 have fz2:=Q_ 2
 clear Q_
 go_wp2
 exact bodyPost_ret (v:=.tuple #[.agg #[.bool false,.slice none 0 0,.int .i64 0],.int .i64 4]) (by simp [results,Tryz.results53,go_sem,yj,yk,yl]) rfl ⟨rfl,((hS.fr.setCell (by simp) _).setCell (by simp) _).setCell (by simp) _⟩
theorem make_below (s:Bool) (a:Option Addr) (n cap m z:Nat) (x:Int) (w:World) (h:Num w a n m) (hm:0 < m) (hT:Tb w) (hz:Tz m z) (hz2:z < 524288) (hx:x+z < -1073741824) :
  Calls Tryz.prog 53 #[.bool s,.agg #[.slice a n cap],.int .i64 x] w fun e w'=>e = .returned (.tuple #[.agg #[.bool false,.slice none 0 0,.int .i64 0],.int .i64 4])∧Below w.heap.size w w':=by
 have hn0:0 < n:=by have:=h.zero; omega
 have H:=hide h
 have HM:=hide hm
 have HT:=hide hT
 have HZ:=hide hz
 clear h hm hT hz
 go_enter Tryz.func53,Tryz.ntmps53
 go_wp2_with fail
 refine (check_num a n cap m _ (((unhide H).alloc _).alloc _)).mono ?_
 rintro e w1 ⟨rfl,hb1⟩
 have hS:=(Fs.two w _ _ _ _).kept hb1
 obtain ⟨⟨ya,-⟩,⟨yb,yc,yd,-⟩,-⟩:=hS.cells
 go_wp2_with fail
 refine (isNought_no a n cap hn0 _).mono ?_
 rintro e w2 ⟨rfl,hb2⟩
 replace hS:=hS.kept hb2
 clear ya yb yc yd
 obtain ⟨⟨ye,-⟩,⟨yf,yg,yh,-⟩,-⟩:=hS.cells
 go_wp2_with fail
 refine (twosIn_z a n cap m z _ ((unhide H).kept hS.fr) (unhide HM) ((unhide HT).kept hS.fr) (unhide HZ)).mono ?_
 rintro e w3 ⟨rfl,hb3⟩
 replace hS:=hS.kept hb3
 clear ye yf yg yh
 obtain ⟨⟨yi,-⟩,⟨yj,yk,yl,-⟩,-⟩:=hS.cells
 have Q_:=hS.frozen (b:=w.heap.size+1) (cs:=#[.bool false,.slice none 0 0,.int .i64 0]) (t:=58) (by simp)
 have fz0:=Q_ 0
 have fz1:=Q_ 1
 have fz2:=Q_ 2
 clear Q_
 go_wp2
 exact bodyPost_ret (v:=.tuple #[.agg #[.bool false,.slice none 0 0,.int .i64 0],.int .i64 4]) (by simp [results,Tryz.results53,go_sem,yj,yk,yl]) rfl ⟨rfl,((hS.fr.setCell (by simp) _).setCell (by simp) _).setCell (by simp) _⟩
theorem make_ok (s:Bool) (a:Option Addr) (n cap m z:Nat) (x:Int) (w:World) (h:Num w a n m) (hm:0 < m) (hT:Tb w) (hz:Tz m z) (hz2:z < 524288) (hcap:n≤cap) (hcap2:cap≤9223372036854775807) (hx:-1073741824≤x+z∧x+z≤1073741824) :
  Calls Tryz.prog 53 #[.bool s,.agg #[.slice a n cap],.int .i64 x] w fun e w'=>(∃ A N C,e = .returned (.tuple #[.agg #[.bool s,.slice A N C,.int .i64 (x+(z:Int))],.int .i64 0])∧Mine w' w.heap.size A N C (m / 2 ^ z))∧Below w.heap.size w w':=by
 have hn0:0 < n:=by have:=h.zero; omega
 have H:=hide h
 have HM:=hide hm
 have HT:=hide hT
 have HZ:=hide hz
 clear h hm hT hz
 go_enter Tryz.func53,Tryz.ntmps53
 go_wp2_with fail
 refine (check_num a n cap m _ (((unhide H).alloc _).alloc _)).mono ?_
 rintro e w1 ⟨rfl,hb1⟩
 have hS:=(Fs.two w _ _ _ _).kept hb1
 obtain ⟨⟨ya,-⟩,⟨yb,yc,yd,-⟩,-⟩:=hS.cells
 go_wp2_with fail
 refine (isNought_no a n cap hn0 _).mono ?_
 rintro e w2 ⟨rfl,hb2⟩
 replace hS:=hS.kept hb2
 clear ya yb yc yd
 obtain ⟨⟨ye,-⟩,⟨yf,yg,yh,-⟩,-⟩:=hS.cells
 go_wp2_with fail
 refine (twosIn_z a n cap m z _ ((unhide H).kept hS.fr) (unhide HM) ((unhide HT).kept hS.fr) (unhide HZ)).mono ?_
 rintro e w3 ⟨rfl,hb3⟩
 replace hS:=hS.kept hb3
 clear ye yf yg yh
 obtain ⟨⟨yi,-⟩,⟨yj,yk,yl,-⟩,-⟩:=hS.cells
 have hltw3_0:w.heap.size < w3.heap.size:=hS.lt 0 rfl
 have hltw3_1:w.heap.size+1 < w3.heap.size:=hS.lt 1 rfl
 go_wp2_with fail
 refine (down_any a n cap m z _ ((unhide H).kept hS.fr) hcap hcap2 (by omega)).mono ?_
 rintro e w4 ⟨⟨A4,N4,C4,rfl,f4⟩,hb4⟩
 replace hS:=hS.kept hb4
 clear yi yj yk yl
 obtain ⟨⟨ym,-⟩,⟨yn,yo,yp,-⟩,-⟩:=hS.cells
 have hltw4_0:w.heap.size < w4.heap.size:=hS.lt 0 rfl
 have hltw4_1:w.heap.size+1 < w4.heap.size:=hS.lt 1 rfl
 have F4:=hide f4
 clear f4
 have Q_:=hS.frozen (b:=w.heap.size+1) (cs:=#[.bool false,.slice none 0 0,.int .i64 0]) (t:=58) (by simp)
 have fz0:=Q_ 0
 have fz1:=Q_ 1
 have fz2:=Q_ 2
 clear Q_
 go_wp2
 have hB:=fun u0 u1 u2=>((hS.fr.setCell (p:=⟨w.heap.size+1,0,none⟩) (by simp) u0).setCell (p:=⟨w.heap.size+1,1,none⟩) (by simp) u1).setCell (p:=⟨w.heap.size+1,2,none⟩) (by simp) u2
 exact bodyPost_ret (v:=.tuple #[.agg #[.bool s,.slice A4 N4 C4,.int .i64 (x+(z:Int))],.int .i64 0]) (by simp [results,Tryz.results53,go_sem,yn,yo,yp,hltw4_1]) rfl
  ⟨⟨_,_,_,rfl,(((((unhide F4).set (by exact hltw3_1) _).set (by exact hltw3_1) _).set (by exact hltw3_1) _).alloc _).mono (by omega)⟩,(hB _ _ _).alloc (hB _ _ _).size _⟩
theorem Mine.room {w:World} {base:Nat} {a:Option Addr} {n c m:Nat} (h:Mine w base a n c m):n≤c∧c≤9223372036854775807:=by
 obtain ⟨xs,_,ho,_⟩:=h
 rcases ho with ⟨e,_⟩|⟨g',cap',cur,e,hg,hh,h1,h2,h3,hc⟩
 ·cases e; omega
 ·cases e; omega
theorem st_mine (base:Nat) (a:Option Addr) (n c m:Nat):St base (fun W=>Mine W base a n c m):=⟨fun _ _ hb h=>h.kept hb,fun _ _ u hp h=>h.set hp u⟩
theorem worth_1 (s:Bool) (ex:Int) (fr hid:Nat) (x:Int) (w:World)  :
  Calls Tryz.prog 96 #[.int .u8 1,.agg #[.bool s,.int .i64 ex,.int .u64 fr],.int .u64 hid,.int .i64 x] w fun e w'=>e = .returned (.tuple #[.agg #[.bool false,.slice none 0 0,.int .i64 0],.int .i64 0])∧Below w.heap.size w w':=by
 go_enter Tryz.func96,Tryz.ntmps96
 have hS:Fs w ((w.alloc (.cells #[.bool s,.int .i64 ex,.int .u64 fr] 35)).alloc (.cells #[.bool false,.slice none 0 0,.int .i64 0] 58)) [⟨w.heap.size,#[.bool s,.int .i64 ex,.int .u64 fr],35⟩,⟨w.heap.size+1,#[.bool false,.slice none 0 0,.int .i64 0],58⟩]:=Fs.two w _ _ _ _
 go_wp2
 exact bodyPost_ret (v:=.tuple #[.agg #[.bool false,.slice none 0 0,.int .i64 0],.int .i64 0]) (by simp [results,Tryz.results96,go_sem]) rfl ⟨rfl,hS.fr⟩
theorem worth_4 (s:Bool) (ex:Int) (fr hid:Nat) (x:Int) (w:World)  :
  Calls Tryz.prog 96 #[.int .u8 4,.agg #[.bool s,.int .i64 ex,.int .u64 fr],.int .u64 hid,.int .i64 x] w fun e w'=>e = .returned (.tuple #[.agg #[.bool false,.slice none 0 0,.int .i64 0],.int .i64 8])∧Below w.heap.size w w':=by
 go_enter Tryz.func96,Tryz.ntmps96
 have hS:Fs w ((w.alloc (.cells #[.bool s,.int .i64 ex,.int .u64 fr] 35)).alloc (.cells #[.bool false,.slice none 0 0,.int .i64 0] 58)) [⟨w.heap.size,#[.bool s,.int .i64 ex,.int .u64 fr],35⟩,⟨w.heap.size+1,#[.bool false,.slice none 0 0,.int .i64 0],58⟩]:=Fs.two w _ _ _ _
 go_wp2
 exact bodyPost_ret (v:=.tuple #[.agg #[.bool false,.slice none 0 0,.int .i64 0],.int .i64 8]) (by simp [results,Tryz.results96,go_sem]) rfl ⟨rfl,hS.fr⟩
theorem worth_5 (s:Bool) (ex:Int) (fr hid:Nat) (x:Int) (w:World)  :
  Calls Tryz.prog 96 #[.int .u8 5,.agg #[.bool s,.int .i64 ex,.int .u64 fr],.int .u64 hid,.int .i64 x] w fun e w'=>e = .returned (.tuple #[.agg #[.bool false,.slice none 0 0,.int .i64 0],.int .i64 8])∧Below w.heap.size w w':=by
 go_enter Tryz.func96,Tryz.ntmps96
 have hS:Fs w ((w.alloc (.cells #[.bool s,.int .i64 ex,.int .u64 fr] 35)).alloc (.cells #[.bool false,.slice none 0 0,.int .i64 0] 58)) [⟨w.heap.size,#[.bool s,.int .i64 ex,.int .u64 fr],35⟩,⟨w.heap.size+1,#[.bool false,.slice none 0 0,.int .i64 0],58⟩]:=Fs.two w _ _ _ _
 go_wp2
 exact bodyPost_ret (v:=.tuple #[.agg #[.bool false,.slice none 0 0,.int .i64 0],.int .i64 8]) (by simp [results,Tryz.results96,go_sem]) rfl ⟨rfl,hS.fr⟩
theorem worth_normal (s:Bool) (ex:Int) (fr hid:Nat) (x:Int) (M z:Nat) (xe:Int) (w:World) (hM0:0 < M) (hM64:M < 18446744073709551616) (hT:Tb w) (hz:Tz M z) (hz2:z < 524288) (hb1:-1073741824≤xe+z∧xe+z≤1073741824) (hor:bits BinOp.or .u64 (fr:Int) (hid:Int) = (M:Int)) (hxe:x+(ex - 1) = xe) (hex:0≤ex∧ex≤4096) :
  Calls Tryz.prog 96 #[.int .u8 3,.agg #[.bool s,.int .i64 ex,.int .u64 fr],.int .u64 hid,.int .i64 x] w fun e w'=>(∃ A N C,e = .returned (.tuple #[.agg #[.bool s,.slice A N C,.int .i64 (xe+(z:Int))],.int .i64 0])∧Mine w' w.heap.size A N C (M / 2 ^ z))∧Below w.heap.size w w':=by
 have HT:=hide hT
 have HZ:=hide hz
 have HM0:=hide hM0
 clear hT hz hM0
 go_enter Tryz.func96,Tryz.ntmps96
 go_wp2_with fail
 have hS:Fs w ((w.alloc (.cells #[.bool s,.int .i64 ex,.int .u64 fr] 35)).alloc (.cells #[.bool false,.slice none 0 0,.int .i64 0] 58)) [⟨w.heap.size,#[.bool s,.int .i64 ex,.int .u64 fr],35⟩,⟨w.heap.size+1,#[.bool false,.slice none 0 0,.int .i64 0],58⟩]:=Fs.two w _ _ _ _
 have hS3s:w.heap.size≤((w.alloc (.cells #[.bool s,.int .i64 ex,.int .u64 fr] 35)).alloc (.cells #[.bool false,.slice none 0 0,.int .i64 0] 58)).heap.size:=hS.size
 have hs9:∀ x9:Nat×(Pk→World→Prop),x9∈([(3,fun q W=>Mine W ((w.alloc (.cells #[.bool s,.int .i64 ex,.int .u64 fr] 35)).alloc (.cells #[.bool false,.slice none 0 0,.int .i64 0] 58)).heap.size q.A q.N q.C M),(5,fun q W=>Mine W ((w.alloc (.cells #[.bool s,.int .i64 ex,.int .u64 fr] 35)).alloc (.cells #[.bool false,.slice none 0 0,.int .i64 0] 58)).heap.size q.A q.N q.C (M / 2 ^ z))]:List (Nat×(Pk→World→Prop)))→∀ q9:Pk,St ((w.alloc (.cells #[.bool s,.int .i64 ex,.int .u64 fr] 35)).alloc (.cells #[.bool false,.slice none 0 0,.int .i64 0] 58)).heap.size (x9.2 q9):=by
  intro x hx q
  simp only [List.mem_cons,List.not_mem_nil,or_false] at hx
  rcases hx with rfl|rfl
  ·exact st_mine _ _ _ _ _
  ·exact st_mine _ _ _ _ _
 have h09:∀ x9:Nat×(Pk→World→Prop),x9∈([(3,fun q W=>Mine W ((w.alloc (.cells #[.bool s,.int .i64 ex,.int .u64 fr] 35)).alloc (.cells #[.bool false,.slice none 0 0,.int .i64 0] 58)).heap.size q.A q.N q.C M),(5,fun q W=>Mine W ((w.alloc (.cells #[.bool s,.int .i64 ex,.int .u64 fr] 35)).alloc (.cells #[.bool false,.slice none 0 0,.int .i64 0] 58)).heap.size q.A q.N q.C (M / 2 ^ z))]:List (Nat×(Pk→World→Prop)))→11≤x9.1→x9.2 ⟨none,0,0⟩ ((w.alloc (.cells #[.bool s,.int .i64 ex,.int .u64 fr] 35)).alloc (.cells #[.bool false,.slice none 0 0,.int .i64 0] 58)):=by
  intro x hx hn9
  simp only [List.mem_cons,List.not_mem_nil,or_false] at hx
  rcases hx with rfl|rfl
  ·exact absurd hn9 (by simp)
  ·exact absurd hn9 (by simp)
 refine wp_region_any (by kernel_rfl) ?_
 refine wpAny_pick (fun p9=>[some (29,.pointer (some ⟨w.heap.size,0,none⟩)),some (30,.bool s),some (31,.int .u64 M),some (32,.agg #[.slice (p9 3).A (p9 3).N (p9 3).C]),some (33,.int .i64 xe),some (34,.tuple #[.agg #[.bool s,.slice (p9 5).A (p9 5).N (p9 5).C,.int .i64 (xe+(z:Int))],.int .i64 0]),some (28,.tuple #[.agg #[.bool s,.slice (p9 5).A (p9 5).N (p9 5).C,.int .i64 (xe+(z:Int))],.int .i64 0]),some (35,.agg #[.bool s,.slice (p9 5).A (p9 5).N (p9 5).C,.int .i64 (xe+(z:Int))]),some (36,.int .i64 0),none,some (9,.int .i64 0)])
  (fun p9 l9 W9=>Pm w ((w.alloc (.cells #[.bool s,.int .i64 ex,.int .u64 fr] 35)).alloc (.cells #[.bool false,.slice none 0 0,.int .i64 0] 58)).heap.size [(3,fun q W=>Mine W ((w.alloc (.cells #[.bool s,.int .i64 ex,.int .u64 fr] 35)).alloc (.cells #[.bool false,.slice none 0 0,.int .i64 0] 58)).heap.size q.A q.N q.C M),(5,fun q W=>Mine W ((w.alloc (.cells #[.bool s,.int .i64 ex,.int .u64 fr] 35)).alloc (.cells #[.bool false,.slice none 0 0,.int .i64 0] 58)).heap.size q.A q.N q.C (M / 2 ^ z))] p9 l9 W9 (pickBs l9 [(9,[⟨w.heap.size,#[.bool s,.int .i64 ex,.int .u64 fr],35⟩,⟨w.heap.size+1,#[.bool s,.slice (p9 5).A (p9 5).N (p9 5).C,.int .i64 (xe+(z:Int))],58⟩])] [⟨w.heap.size,#[.bool s,.int .i64 ex,.int .u64 fr],35⟩,⟨w.heap.size+1,#[.bool false,.slice none 0 0,.int .i64 0],58⟩])) _ _ (fun _=>rfl) (by kernel_rfl) (fun _=>rfl) (fun _=>rfl) ?_ ?_ (fun _=>⟨none,0,0⟩) (Pm.start hS _ _ _ hs9 h09)
 ·intro p9 l9 t9 W9 i9 hD hi9 hl9 hM
  obtain ⟨o9,ho9,hd9⟩:=(mem_ready.1 hi9).2
  have hin9:i9 < 11:=by
   by_cases h:i9 < 11
   ·exact h
   ·rw [Array.getElem?_eq_none (by rw [hD.len]; simp; omega)] at hl9; cases hl9
  have hcase:i9 = 0∨i9 = 1∨i9 = 2∨i9 = 3∨i9 = 4∨i9 = 5∨i9 = 6∨i9 = 7∨i9 = 8∨i9 = 9∨i9 = 10:=by omega
  clear hin9
  rcases hcase with rfl|rfl|rfl|rfl|rfl|rfl|rfl|rfl|rfl|rfl|rfl
  ·cases ho9
   have r5:=hD.old 5 _ rfl rfl
   refine wpOp_step rfl fun K hK=>?_
   go_simp
   exact hK _ _ ⟨p9,fun _ _=>rfl,rfl,(Pm.keepM rfl (hM.val rfl))⟩
  ·cases ho9
   have r29:=hD.od hd9 0 29 _ rfl (by simp)
   have hM0:Fs w W9 [⟨w.heap.size,#[.bool s,.int .i64 ex,.int .u64 fr],35⟩,⟨w.heap.size+1,#[.bool false,.slice none 0 0,.int .i64 0],58⟩]:=by
    have hM1:=hM.st
    simp only [pickBs] at hM1
    rw [if_neg (hD.waits 1 9 _ ⟨1,.phase⟩ hl9 rfl (by simp) rfl rfl)] at hM1
    exact hM1
   have c9_0:=hM0.cellAt (b:=w.heap.size) (cs:=#[.bool s,.int .i64 ex,.int .u64 fr]) (t:=35) (by simp) 0 _ rfl
   clear hM0
   refine wpOp_step rfl fun K hK=>?_
   go_simp
   exact hK _ _ ⟨p9,fun _ _=>rfl,rfl,(Pm.keepM rfl (hM.val rfl))⟩
  ·cases ho9
   have r10:=hD.old 10 _ rfl rfl
   refine wpOp_step rfl fun K hK=>?_
   go_simp
   exact hK _ _ ⟨p9,fun _ _=>rfl,rfl,(Pm.keepM rfl (hM.val rfl))⟩
  ·cases ho9
   have r31:=hD.od hd9 2 31 _ rfl (by simp)
   have hM0:Fs w W9 [⟨w.heap.size,#[.bool s,.int .i64 ex,.int .u64 fr],35⟩,⟨w.heap.size+1,#[.bool false,.slice none 0 0,.int .i64 0],58⟩]:=by
    have hM1:=hM.st
    simp only [pickBs] at hM1
    rw [if_neg (hD.waits 3 9 _ ⟨3,.phase⟩ hl9 rfl (by simp) rfl rfl)] at hM1
    exact hM1
   have HD:=hide hD
   have hn9:=hD.waits 3 9 _ ⟨3,.phase⟩ hl9 rfl (by simp) rfl rfl
   refine wpOp_step rfl fun K hK=>?_
   go_simp
   go_wp2_with fail
   refine (of_any M _ hM64).mono ?_
   rintro en w9 ⟨⟨a9,n9,c9,rfl,h9⟩,hb9⟩
   refine hK _ _ ⟨p9.set 3 ⟨a9,n9,c9⟩,?_,rfl,(Pm.keepM rfl (((hM.kept hs9 hb9).pick ⟨a9,n9,c9⟩ ?_).into (by simp only [pickBs]; rw [if_neg hn9,if_neg hn9])))⟩
   ·refine (unhide HD).agree hl9 ?_
    intro k9 hk9 hd9
    clear HD hM hK
    match k9 with
    | 0=>rfl
    | 1=>rfl
    | 2=>rfl
    | 3=>exact absurd rfl hk9
    | 4=>rfl
    | 5=>exact nomatch hd9.symm.trans (show downB _ _ _ _ = true by kernel_rfl)
    | 6=>exact nomatch hd9.symm.trans (show downB _ _ _ _ = true by kernel_rfl)
    | 7=>exact nomatch hd9.symm.trans (show downB _ _ _ _ = true by kernel_rfl)
    | 8=>exact nomatch hd9.symm.trans (show downB _ _ _ _ = true by kernel_rfl)
    | 9=>exact nomatch hd9.symm.trans (show downB _ _ _ _ = true by kernel_rfl)
    | 10=>exact nomatch hd9.symm.trans (show downB _ _ _ _ = true by kernel_rfl)
    | k9+11=>rfl
   ·intro x hx he; simp only [List.mem_cons,List.not_mem_nil,or_false] at hx; rcases hx with rfl|rfl
    ·exact h9.mono hM.bw
    ·exact absurd he (by simp)
  ·cases ho9
   have r3:=hD.old 3 _ rfl rfl
   refine wpOp_step rfl fun K hK=>?_
   go_simp
   exact hK _ _ ⟨p9,fun _ _=>rfl,rfl,(Pm.keepM rfl (hM.val rfl))⟩
  ·cases ho9
   have r30:=hD.od hd9 1 30 _ rfl (by simp)
   have r32:=hD.od hd9 3 32 _ rfl (by simp)
   have r33:=hD.od hd9 4 33 _ rfl (by simp)
   have g3:=hM.fx _ (List.mem_of_getElem? (i:=0) rfl) (Or.inl (getD_true (hd9 ⟨3,.data⟩ (by simp) rfl)))
   simp only [] at g3
   have hM0:Fs w W9 [⟨w.heap.size,#[.bool s,.int .i64 ex,.int .u64 fr],35⟩,⟨w.heap.size+1,#[.bool false,.slice none 0 0,.int .i64 0],58⟩]:=by
    have hM1:=hM.st
    simp only [pickBs] at hM1
    rw [if_neg (hD.waits 5 9 _ ⟨5,.chain⟩ hl9 rfl (by simp) rfl rfl)] at hM1
    exact hM1
   have HD:=hide hD
   have hn9:=hD.waits 5 9 _ ⟨5,.chain⟩ hl9 rfl (by simp) rfl rfl
   refine wpOp_step rfl fun K hK=>?_
   go_simp
   go_wp2_with fail
   refine (make_ok s (p9 3).A (p9 3).N (p9 3).C M z xe _ g3.num (unhide HM0) ((unhide HT).kept hM.st.fr) (unhide HZ) hz2 g3.room.1 g3.room.2 hb1).mono ?_
   rintro en w9 ⟨⟨a9,n9,c9,rfl,h9⟩,hb9⟩
   refine hK _ _ ⟨p9.set 5 ⟨a9,n9,c9⟩,?_,rfl,(Pm.keepM rfl (((hM.kept hs9 hb9).pick ⟨a9,n9,c9⟩ ?_).into (by simp only [pickBs]; rw [if_neg hn9,if_neg hn9])))⟩
   ·refine (unhide HD).agree hl9 ?_
    intro k9 hk9 hd9
    clear HD hM hK
    match k9 with
    | 0=>rfl
    | 1=>rfl
    | 2=>rfl
    | 3=>rfl
    | 4=>rfl
    | 5=>exact absurd rfl hk9
    | 6=>exact nomatch hd9.symm.trans (show downB _ _ _ _ = true by kernel_rfl)
    | 7=>exact nomatch hd9.symm.trans (show downB _ _ _ _ = true by kernel_rfl)
    | 8=>exact nomatch hd9.symm.trans (show downB _ _ _ _ = true by kernel_rfl)
    | 9=>exact nomatch hd9.symm.trans (show downB _ _ _ _ = true by kernel_rfl)
    | 10=>exact nomatch hd9.symm.trans (show downB _ _ _ _ = true by kernel_rfl)
    | k9+11=>rfl
   ·intro x hx he; simp only [List.mem_cons,List.not_mem_nil,or_false] at hx; rcases hx with rfl|rfl
    ·exact absurd he (by simp)
    ·exact h9.mono hM.bw
  ·cases ho9
   have r34:=hD.od hd9 5 34 _ rfl (by simp)
   refine wpOp_step rfl fun K hK=>?_
   go_simp
   exact hK _ _ ⟨p9,fun _ _=>rfl,rfl,(Pm.keepM rfl (hM.val rfl))⟩
  ·cases ho9
   have r28:=hD.od hd9 6 28 _ rfl (by simp)
   refine wpOp_step rfl fun K hK=>?_
   go_simp
   exact hK _ _ ⟨p9,fun _ _=>rfl,rfl,(Pm.keepM rfl (hM.val rfl))⟩
  ·cases ho9
   have r28:=hD.od hd9 6 28 _ rfl (by simp)
   refine wpOp_step rfl fun K hK=>?_
   go_simp
   exact hK _ _ ⟨p9,fun _ _=>rfl,rfl,(Pm.keepM rfl (hM.val rfl))⟩
  ·cases ho9
   have r8:=hD.old 8 _ rfl rfl
   have r35:=hD.od hd9 7 35 _ rfl (by simp)
   have hM0:Fs w W9 [⟨w.heap.size,#[.bool s,.int .i64 ex,.int .u64 fr],35⟩,⟨w.heap.size+1,#[.bool false,.slice none 0 0,.int .i64 0],58⟩]:=by
    have hM1:=hM.st
    simp only [pickBs] at hM1
    rw [if_neg (by rw [hl9]; simp)] at hM1
    exact hM1
   have c9_0:=hM0.cellAt (b:=w.heap.size+1) (cs:=#[.bool false,.slice none 0 0,.int .i64 0]) (t:=58) (by simp) 0 _ rfl
   have z9_0:=hM0.frozen (b:=w.heap.size+1) (cs:=#[.bool false,.slice none 0 0,.int .i64 0]) (t:=58) (by simp) 0
   have c9_1:=hM0.cellAt (b:=w.heap.size+1) (cs:=#[.bool false,.slice none 0 0,.int .i64 0]) (t:=58) (by simp) 1 _ rfl
   have z9_1:=hM0.frozen (b:=w.heap.size+1) (cs:=#[.bool false,.slice none 0 0,.int .i64 0]) (t:=58) (by simp) 1
   have c9_2:=hM0.cellAt (b:=w.heap.size+1) (cs:=#[.bool false,.slice none 0 0,.int .i64 0]) (t:=58) (by simp) 2 _ rfl
   have z9_2:=hM0.frozen (b:=w.heap.size+1) (cs:=#[.bool false,.slice none 0 0,.int .i64 0]) (t:=58) (by simp) 2
   refine wpOp_step rfl fun K hK=>?_
   go_simp
   exact hK _ _ ⟨p9,fun _ _=>rfl,rfl,Pm.putM hl9 ((((hM.val rfl).put hs9 _ _ (block_lt (hS.bx _ (List.mem_of_getElem? (i:=1) rfl))) (hM0.put (b:=w.heap.size+1) (cs:=#[.bool false,.slice none 0 0,.int .i64 0]) (t:=58) (by simp) (by simp) 0 (.bool s) [⟨w.heap.size,#[.bool s,.int .i64 ex,.int .u64 fr],35⟩,⟨w.heap.size+1,#[.bool s,.slice none 0 0,.int .i64 0],58⟩] (by simp <;> omega))).put hs9 _ _ (block_lt (hS.bx _ (List.mem_of_getElem? (i:=1) rfl))) ((hM0.put (b:=w.heap.size+1) (cs:=#[.bool false,.slice none 0 0,.int .i64 0]) (t:=58) (by simp) (by simp) 0 (.bool s) [⟨w.heap.size,#[.bool s,.int .i64 ex,.int .u64 fr],35⟩,⟨w.heap.size+1,#[.bool s,.slice none 0 0,.int .i64 0],58⟩] (by simp <;> omega)).put (b:=w.heap.size+1) (cs:=#[.bool s,.slice none 0 0,.int .i64 0]) (t:=58) (by simp) (by simp) 1 (.slice (p9 5).A (p9 5).N (p9 5).C) [⟨w.heap.size,#[.bool s,.int .i64 ex,.int .u64 fr],35⟩,⟨w.heap.size+1,#[.bool s,.slice (p9 5).A (p9 5).N (p9 5).C,.int .i64 0],58⟩] (by simp <;> omega))).put hs9 _ _ (block_lt (hS.bx _ (List.mem_of_getElem? (i:=1) rfl))) (((hM0.put (b:=w.heap.size+1) (cs:=#[.bool false,.slice none 0 0,.int .i64 0]) (t:=58) (by simp) (by simp) 0 (.bool s) [⟨w.heap.size,#[.bool s,.int .i64 ex,.int .u64 fr],35⟩,⟨w.heap.size+1,#[.bool s,.slice none 0 0,.int .i64 0],58⟩] (by simp <;> omega)).put (b:=w.heap.size+1) (cs:=#[.bool s,.slice none 0 0,.int .i64 0]) (t:=58) (by simp) (by simp) 1 (.slice (p9 5).A (p9 5).N (p9 5).C) [⟨w.heap.size,#[.bool s,.int .i64 ex,.int .u64 fr],35⟩,⟨w.heap.size+1,#[.bool s,.slice (p9 5).A (p9 5).N (p9 5).C,.int .i64 0],58⟩] (by simp <;> omega)).put (b:=w.heap.size+1) (cs:=#[.bool s,.slice (p9 5).A (p9 5).N (p9 5).C,.int .i64 0]) (t:=58) (by simp) (by simp) 2 (.int .i64 (xe+(z:Int))) [⟨w.heap.size,#[.bool s,.int .i64 ex,.int .u64 fr],35⟩,⟨w.heap.size+1,#[.bool s,.slice (p9 5).A (p9 5).N (p9 5).C,.int .i64 (xe+(z:Int))],58⟩] (by simp <;> omega)))⟩
  ·cases ho9
   have r36:=hD.od hd9 8 36 _ rfl (by simp)
   refine wpOp_step rfl fun K hK=>?_
   go_simp
   exact hK _ _ ⟨p9,fun _ _=>rfl,rfl,(Pm.keepM rfl (hM.val rfl))⟩
 ·intro p9 l9 W9 hn9 hl9 hM
  have fr8_3:=hM.fx _ (List.mem_of_getElem? (i:=0) rfl) (Or.inl (hl9 3 (by decide)))
  have fr8_5:=hM.fx _ (List.mem_of_getElem? (i:=1) rfl) (Or.inl (hl9 5 (by decide)))
  replace hM:=hM.st
  simp only [pickBs] at hM
  rw [if_pos (hl9 9 (by decide))] at hM
  clear hl9 hs9 h09 hn9
  generalize p9 3 = q3 at *
  obtain ⟨Ar8_3,Nr8_3,Cr8_3⟩:=q3
  simp only [] at fr8_3
  generalize p9 5 = q5 at *
  obtain ⟨Ar8_5,Nr8_5,Cr8_5⟩:=q5
  simp only [] at fr8_5
  clear hS
  have hS:=hM
  clear hM
  simp only [Puts.lay,List.setIfInBounds_toArray,List.set_cons_zero,List.set_cons_succ]
  obtain ⟨⟨ya,yb,yc,-⟩,⟨yd,ye,yf,-⟩,-⟩:=hS.cells
  have Q_:=hS.frozen (b:=w.heap.size+1) (cs:=#[.bool s,.slice Ar8_5 Nr8_5 Cr8_5,.int .i64 (xe+(z:Int))]) (t:=58) (by simp)
  have fz0:=Q_ 0
  have fz1:=Q_ 1
  have fz2:=Q_ 2
  clear Q_
  have F5:=hide fr8_5
  clear fr8_5 fr8_3
  go_wp2
  exact bodyPost_ret (v:=.tuple #[.agg #[.bool s,.slice Ar8_5 Nr8_5 Cr8_5,.int .i64 (xe+(z:Int))],.int .i64 0]) (by simp [results,Tryz.results96,go_sem,yd,ye,yf]) rfl
   ⟨⟨_,_,_,rfl,((((unhide F5).set (by simp) _).set (by simp) _).set (by simp) _).mono (by simp; omega)⟩,((hS.fr.setCell (by simp) _).setCell (by simp) _).setCell (by simp) _⟩
theorem worth_small (s:Bool) (ex:Int) (fr hid:Nat) (x:Int) (M z:Nat) (xe:Int) (w:World) (hM0:0 < M) (hM64:M < 18446744073709551616) (hT:Tb w) (hz:Tz M z) (hz2:z < 524288) (hb1:-1073741824≤xe+z∧xe+z≤1073741824) (hfr:fr = M) (hxe:x = xe) :
  Calls Tryz.prog 96 #[.int .u8 2,.agg #[.bool s,.int .i64 ex,.int .u64 fr],.int .u64 hid,.int .i64 x] w fun e w'=>(∃ A N C,e = .returned (.tuple #[.agg #[.bool s,.slice A N C,.int .i64 (xe+(z:Int))],.int .i64 0])∧Mine w' w.heap.size A N C (M / 2 ^ z))∧Below w.heap.size w w':=by
 have HT:=hide hT
 have HZ:=hide hz
 have HM0:=hide hM0
 clear hT hz hM0
 subst hfr
 subst hxe
 go_enter Tryz.func96,Tryz.ntmps96
 go_wp2_with fail
 have hS:Fs w ((w.alloc (.cells #[.bool s,.int .i64 ex,.int .u64 fr] 35)).alloc (.cells #[.bool false,.slice none 0 0,.int .i64 0] 58)) [⟨w.heap.size,#[.bool s,.int .i64 ex,.int .u64 fr],35⟩,⟨w.heap.size+1,#[.bool false,.slice none 0 0,.int .i64 0],58⟩]:=Fs.two w _ _ _ _
 have hS3s:w.heap.size≤((w.alloc (.cells #[.bool s,.int .i64 ex,.int .u64 fr] 35)).alloc (.cells #[.bool false,.slice none 0 0,.int .i64 0] 58)).heap.size:=hS.size
 have hs9:∀ x9:Nat×(Pk→World→Prop),x9∈([(3,fun q W=>Mine W ((w.alloc (.cells #[.bool s,.int .i64 ex,.int .u64 fr] 35)).alloc (.cells #[.bool false,.slice none 0 0,.int .i64 0] 58)).heap.size q.A q.N q.C fr),(5,fun q W=>Mine W ((w.alloc (.cells #[.bool s,.int .i64 ex,.int .u64 fr] 35)).alloc (.cells #[.bool false,.slice none 0 0,.int .i64 0] 58)).heap.size q.A q.N q.C (fr / 2 ^ z))]:List (Nat×(Pk→World→Prop)))→∀ q9:Pk,St ((w.alloc (.cells #[.bool s,.int .i64 ex,.int .u64 fr] 35)).alloc (.cells #[.bool false,.slice none 0 0,.int .i64 0] 58)).heap.size (x9.2 q9):=by
  intro x hx q
  simp only [List.mem_cons,List.not_mem_nil,or_false] at hx
  rcases hx with rfl|rfl
  ·exact st_mine _ _ _ _ _
  ·exact st_mine _ _ _ _ _
 have h09:∀ x9:Nat×(Pk→World→Prop),x9∈([(3,fun q W=>Mine W ((w.alloc (.cells #[.bool s,.int .i64 ex,.int .u64 fr] 35)).alloc (.cells #[.bool false,.slice none 0 0,.int .i64 0] 58)).heap.size q.A q.N q.C fr),(5,fun q W=>Mine W ((w.alloc (.cells #[.bool s,.int .i64 ex,.int .u64 fr] 35)).alloc (.cells #[.bool false,.slice none 0 0,.int .i64 0] 58)).heap.size q.A q.N q.C (fr / 2 ^ z))]:List (Nat×(Pk→World→Prop)))→11≤x9.1→x9.2 ⟨none,0,0⟩ ((w.alloc (.cells #[.bool s,.int .i64 ex,.int .u64 fr] 35)).alloc (.cells #[.bool false,.slice none 0 0,.int .i64 0] 58)):=by
  intro x hx hn9
  simp only [List.mem_cons,List.not_mem_nil,or_false] at hx
  rcases hx with rfl|rfl
  ·exact absurd hn9 (by simp)
  ·exact absurd hn9 (by simp)
 refine wp_region_any (by kernel_rfl) ?_
 refine wpAny_pick (fun p9=>[some (29,.pointer (some ⟨w.heap.size,0,none⟩)),some (30,.bool s),some (31,.int .u64 fr),some (32,.agg #[.slice (p9 3).A (p9 3).N (p9 3).C]),some (33,.int .i64 x),some (34,.tuple #[.agg #[.bool s,.slice (p9 5).A (p9 5).N (p9 5).C,.int .i64 (x+(z:Int))],.int .i64 0]),some (28,.tuple #[.agg #[.bool s,.slice (p9 5).A (p9 5).N (p9 5).C,.int .i64 (x+(z:Int))],.int .i64 0]),some (35,.agg #[.bool s,.slice (p9 5).A (p9 5).N (p9 5).C,.int .i64 (x+(z:Int))]),some (36,.int .i64 0),none,some (9,.int .i64 0)])
  (fun p9 l9 W9=>Pm w ((w.alloc (.cells #[.bool s,.int .i64 ex,.int .u64 fr] 35)).alloc (.cells #[.bool false,.slice none 0 0,.int .i64 0] 58)).heap.size [(3,fun q W=>Mine W ((w.alloc (.cells #[.bool s,.int .i64 ex,.int .u64 fr] 35)).alloc (.cells #[.bool false,.slice none 0 0,.int .i64 0] 58)).heap.size q.A q.N q.C fr),(5,fun q W=>Mine W ((w.alloc (.cells #[.bool s,.int .i64 ex,.int .u64 fr] 35)).alloc (.cells #[.bool false,.slice none 0 0,.int .i64 0] 58)).heap.size q.A q.N q.C (fr / 2 ^ z))] p9 l9 W9 (pickBs l9 [(9,[⟨w.heap.size,#[.bool s,.int .i64 ex,.int .u64 fr],35⟩,⟨w.heap.size+1,#[.bool s,.slice (p9 5).A (p9 5).N (p9 5).C,.int .i64 (x+(z:Int))],58⟩])] [⟨w.heap.size,#[.bool s,.int .i64 ex,.int .u64 fr],35⟩,⟨w.heap.size+1,#[.bool false,.slice none 0 0,.int .i64 0],58⟩])) _ _ (fun _=>rfl) (by kernel_rfl) (fun _=>rfl) (fun _=>rfl) ?_ ?_ (fun _=>⟨none,0,0⟩) (Pm.start hS _ _ _ hs9 h09)
 ·intro p9 l9 t9 W9 i9 hD hi9 hl9 hM
  obtain ⟨o9,ho9,hd9⟩:=(mem_ready.1 hi9).2
  have hin9:i9 < 11:=by
   by_cases h:i9 < 11
   ·exact h
   ·rw [Array.getElem?_eq_none (by rw [hD.len]; simp; omega)] at hl9; cases hl9
  have hcase:i9 = 0∨i9 = 1∨i9 = 2∨i9 = 3∨i9 = 4∨i9 = 5∨i9 = 6∨i9 = 7∨i9 = 8∨i9 = 9∨i9 = 10:=by omega
  clear hin9
  rcases hcase with rfl|rfl|rfl|rfl|rfl|rfl|rfl|rfl|rfl|rfl|rfl
  ·cases ho9
   have r5:=hD.old 5 _ rfl rfl
   refine wpOp_step rfl fun K hK=>?_
   go_simp
   exact hK _ _ ⟨p9,fun _ _=>rfl,rfl,(Pm.keepM rfl (hM.val rfl))⟩
  ·cases ho9
   have r29:=hD.od hd9 0 29 _ rfl (by simp)
   have hM0:Fs w W9 [⟨w.heap.size,#[.bool s,.int .i64 ex,.int .u64 fr],35⟩,⟨w.heap.size+1,#[.bool false,.slice none 0 0,.int .i64 0],58⟩]:=by
    have hM1:=hM.st
    simp only [pickBs] at hM1
    rw [if_neg (hD.waits 1 9 _ ⟨1,.phase⟩ hl9 rfl (by simp) rfl rfl)] at hM1
    exact hM1
   have c9_0:=hM0.cellAt (b:=w.heap.size) (cs:=#[.bool s,.int .i64 ex,.int .u64 fr]) (t:=35) (by simp) 0 _ rfl
   clear hM0
   refine wpOp_step rfl fun K hK=>?_
   go_simp
   exact hK _ _ ⟨p9,fun _ _=>rfl,rfl,(Pm.keepM rfl (hM.val rfl))⟩
  ·cases ho9
   have r10:=hD.old 10 _ rfl rfl
   refine wpOp_step rfl fun K hK=>?_
   go_simp
   exact hK _ _ ⟨p9,fun _ _=>rfl,rfl,(Pm.keepM rfl (hM.val rfl))⟩
  ·cases ho9
   have r31:=hD.od hd9 2 31 _ rfl (by simp)
   have hM0:Fs w W9 [⟨w.heap.size,#[.bool s,.int .i64 ex,.int .u64 fr],35⟩,⟨w.heap.size+1,#[.bool false,.slice none 0 0,.int .i64 0],58⟩]:=by
    have hM1:=hM.st
    simp only [pickBs] at hM1
    rw [if_neg (hD.waits 3 9 _ ⟨3,.phase⟩ hl9 rfl (by simp) rfl rfl)] at hM1
    exact hM1
   have HD:=hide hD
   have hn9:=hD.waits 3 9 _ ⟨3,.phase⟩ hl9 rfl (by simp) rfl rfl
   refine wpOp_step rfl fun K hK=>?_
   go_simp
   go_wp2_with fail
   refine (of_any fr _ hM64).mono ?_
   rintro en w9 ⟨⟨a9,n9,c9,rfl,h9⟩,hb9⟩
   refine hK _ _ ⟨p9.set 3 ⟨a9,n9,c9⟩,?_,rfl,(Pm.keepM rfl (((hM.kept hs9 hb9).pick ⟨a9,n9,c9⟩ ?_).into (by simp only [pickBs]; rw [if_neg hn9,if_neg hn9])))⟩
   ·refine (unhide HD).agree hl9 ?_
    intro k9 hk9 hd9
    clear HD hM hK
    match k9 with
    | 0=>rfl
    | 1=>rfl
    | 2=>rfl
    | 3=>exact absurd rfl hk9
    | 4=>rfl
    | 5=>exact nomatch hd9.symm.trans (show downB _ _ _ _ = true by kernel_rfl)
    | 6=>exact nomatch hd9.symm.trans (show downB _ _ _ _ = true by kernel_rfl)
    | 7=>exact nomatch hd9.symm.trans (show downB _ _ _ _ = true by kernel_rfl)
    | 8=>exact nomatch hd9.symm.trans (show downB _ _ _ _ = true by kernel_rfl)
    | 9=>exact nomatch hd9.symm.trans (show downB _ _ _ _ = true by kernel_rfl)
    | 10=>exact nomatch hd9.symm.trans (show downB _ _ _ _ = true by kernel_rfl)
    | k9+11=>rfl
   ·intro x hx he; simp only [List.mem_cons,List.not_mem_nil,or_false] at hx; rcases hx with rfl|rfl
    ·exact h9.mono hM.bw
    ·exact absurd he (by simp)
  ·cases ho9
   have r3:=hD.old 3 _ rfl rfl
   refine wpOp_step rfl fun K hK=>?_
   go_simp
   exact hK _ _ ⟨p9,fun _ _=>rfl,rfl,(Pm.keepM rfl (hM.val rfl))⟩
  ·cases ho9
   have r30:=hD.od hd9 1 30 _ rfl (by simp)
   have r32:=hD.od hd9 3 32 _ rfl (by simp)
   have r33:=hD.od hd9 4 33 _ rfl (by simp)
   have g3:=hM.fx _ (List.mem_of_getElem? (i:=0) rfl) (Or.inl (getD_true (hd9 ⟨3,.data⟩ (by simp) rfl)))
   simp only [] at g3
   have hM0:Fs w W9 [⟨w.heap.size,#[.bool s,.int .i64 ex,.int .u64 fr],35⟩,⟨w.heap.size+1,#[.bool false,.slice none 0 0,.int .i64 0],58⟩]:=by
    have hM1:=hM.st
    simp only [pickBs] at hM1
    rw [if_neg (hD.waits 5 9 _ ⟨5,.chain⟩ hl9 rfl (by simp) rfl rfl)] at hM1
    exact hM1
   have HD:=hide hD
   have hn9:=hD.waits 5 9 _ ⟨5,.chain⟩ hl9 rfl (by simp) rfl rfl
   refine wpOp_step rfl fun K hK=>?_
   go_simp
   go_wp2_with fail
   refine (make_ok s (p9 3).A (p9 3).N (p9 3).C fr z x _ g3.num (unhide HM0) ((unhide HT).kept hM.st.fr) (unhide HZ) hz2 g3.room.1 g3.room.2 hb1).mono ?_
   rintro en w9 ⟨⟨a9,n9,c9,rfl,h9⟩,hb9⟩
   refine hK _ _ ⟨p9.set 5 ⟨a9,n9,c9⟩,?_,rfl,(Pm.keepM rfl (((hM.kept hs9 hb9).pick ⟨a9,n9,c9⟩ ?_).into (by simp only [pickBs]; rw [if_neg hn9,if_neg hn9])))⟩
   ·refine (unhide HD).agree hl9 ?_
    intro k9 hk9 hd9
    clear HD hM hK
    match k9 with
    | 0=>rfl
    | 1=>rfl
    | 2=>rfl
    | 3=>rfl
    | 4=>rfl
    | 5=>exact absurd rfl hk9
    | 6=>exact nomatch hd9.symm.trans (show downB _ _ _ _ = true by kernel_rfl)
    | 7=>exact nomatch hd9.symm.trans (show downB _ _ _ _ = true by kernel_rfl)
    | 8=>exact nomatch hd9.symm.trans (show downB _ _ _ _ = true by kernel_rfl)
    | 9=>exact nomatch hd9.symm.trans (show downB _ _ _ _ = true by kernel_rfl)
    | 10=>exact nomatch hd9.symm.trans (show downB _ _ _ _ = true by kernel_rfl)
    | k9+11=>rfl
   ·intro x hx he; simp only [List.mem_cons,List.not_mem_nil,or_false] at hx; rcases hx with rfl|rfl
    ·exact absurd he (by simp)
    ·exact h9.mono hM.bw
  ·cases ho9
   have r34:=hD.od hd9 5 34 _ rfl (by simp)
   refine wpOp_step rfl fun K hK=>?_
   go_simp
   exact hK _ _ ⟨p9,fun _ _=>rfl,rfl,(Pm.keepM rfl (hM.val rfl))⟩
  ·cases ho9
   have r28:=hD.od hd9 6 28 _ rfl (by simp)
   refine wpOp_step rfl fun K hK=>?_
   go_simp
   exact hK _ _ ⟨p9,fun _ _=>rfl,rfl,(Pm.keepM rfl (hM.val rfl))⟩
  ·cases ho9
   have r28:=hD.od hd9 6 28 _ rfl (by simp)
   refine wpOp_step rfl fun K hK=>?_
   go_simp
   exact hK _ _ ⟨p9,fun _ _=>rfl,rfl,(Pm.keepM rfl (hM.val rfl))⟩
  ·cases ho9
   have r8:=hD.old 8 _ rfl rfl
   have r35:=hD.od hd9 7 35 _ rfl (by simp)
   have hM0:Fs w W9 [⟨w.heap.size,#[.bool s,.int .i64 ex,.int .u64 fr],35⟩,⟨w.heap.size+1,#[.bool false,.slice none 0 0,.int .i64 0],58⟩]:=by
    have hM1:=hM.st
    simp only [pickBs] at hM1
    rw [if_neg (by rw [hl9]; simp)] at hM1
    exact hM1
   have c9_0:=hM0.cellAt (b:=w.heap.size+1) (cs:=#[.bool false,.slice none 0 0,.int .i64 0]) (t:=58) (by simp) 0 _ rfl
   have z9_0:=hM0.frozen (b:=w.heap.size+1) (cs:=#[.bool false,.slice none 0 0,.int .i64 0]) (t:=58) (by simp) 0
   have c9_1:=hM0.cellAt (b:=w.heap.size+1) (cs:=#[.bool false,.slice none 0 0,.int .i64 0]) (t:=58) (by simp) 1 _ rfl
   have z9_1:=hM0.frozen (b:=w.heap.size+1) (cs:=#[.bool false,.slice none 0 0,.int .i64 0]) (t:=58) (by simp) 1
   have c9_2:=hM0.cellAt (b:=w.heap.size+1) (cs:=#[.bool false,.slice none 0 0,.int .i64 0]) (t:=58) (by simp) 2 _ rfl
   have z9_2:=hM0.frozen (b:=w.heap.size+1) (cs:=#[.bool false,.slice none 0 0,.int .i64 0]) (t:=58) (by simp) 2
   refine wpOp_step rfl fun K hK=>?_
   go_simp
   exact hK _ _ ⟨p9,fun _ _=>rfl,rfl,Pm.putM hl9 ((((hM.val rfl).put hs9 _ _ (block_lt (hS.bx _ (List.mem_of_getElem? (i:=1) rfl))) (hM0.put (b:=w.heap.size+1) (cs:=#[.bool false,.slice none 0 0,.int .i64 0]) (t:=58) (by simp) (by simp) 0 (.bool s) [⟨w.heap.size,#[.bool s,.int .i64 ex,.int .u64 fr],35⟩,⟨w.heap.size+1,#[.bool s,.slice none 0 0,.int .i64 0],58⟩] (by simp <;> omega))).put hs9 _ _ (block_lt (hS.bx _ (List.mem_of_getElem? (i:=1) rfl))) ((hM0.put (b:=w.heap.size+1) (cs:=#[.bool false,.slice none 0 0,.int .i64 0]) (t:=58) (by simp) (by simp) 0 (.bool s) [⟨w.heap.size,#[.bool s,.int .i64 ex,.int .u64 fr],35⟩,⟨w.heap.size+1,#[.bool s,.slice none 0 0,.int .i64 0],58⟩] (by simp <;> omega)).put (b:=w.heap.size+1) (cs:=#[.bool s,.slice none 0 0,.int .i64 0]) (t:=58) (by simp) (by simp) 1 (.slice (p9 5).A (p9 5).N (p9 5).C) [⟨w.heap.size,#[.bool s,.int .i64 ex,.int .u64 fr],35⟩,⟨w.heap.size+1,#[.bool s,.slice (p9 5).A (p9 5).N (p9 5).C,.int .i64 0],58⟩] (by simp <;> omega))).put hs9 _ _ (block_lt (hS.bx _ (List.mem_of_getElem? (i:=1) rfl))) (((hM0.put (b:=w.heap.size+1) (cs:=#[.bool false,.slice none 0 0,.int .i64 0]) (t:=58) (by simp) (by simp) 0 (.bool s) [⟨w.heap.size,#[.bool s,.int .i64 ex,.int .u64 fr],35⟩,⟨w.heap.size+1,#[.bool s,.slice none 0 0,.int .i64 0],58⟩] (by simp <;> omega)).put (b:=w.heap.size+1) (cs:=#[.bool s,.slice none 0 0,.int .i64 0]) (t:=58) (by simp) (by simp) 1 (.slice (p9 5).A (p9 5).N (p9 5).C) [⟨w.heap.size,#[.bool s,.int .i64 ex,.int .u64 fr],35⟩,⟨w.heap.size+1,#[.bool s,.slice (p9 5).A (p9 5).N (p9 5).C,.int .i64 0],58⟩] (by simp <;> omega)).put (b:=w.heap.size+1) (cs:=#[.bool s,.slice (p9 5).A (p9 5).N (p9 5).C,.int .i64 0]) (t:=58) (by simp) (by simp) 2 (.int .i64 (x+(z:Int))) [⟨w.heap.size,#[.bool s,.int .i64 ex,.int .u64 fr],35⟩,⟨w.heap.size+1,#[.bool s,.slice (p9 5).A (p9 5).N (p9 5).C,.int .i64 (x+(z:Int))],58⟩] (by simp <;> omega)))⟩
  ·cases ho9
   have r36:=hD.od hd9 8 36 _ rfl (by simp)
   refine wpOp_step rfl fun K hK=>?_
   go_simp
   exact hK _ _ ⟨p9,fun _ _=>rfl,rfl,(Pm.keepM rfl (hM.val rfl))⟩
 ·intro p9 l9 W9 hn9 hl9 hM
  have fr8_3:=hM.fx _ (List.mem_of_getElem? (i:=0) rfl) (Or.inl (hl9 3 (by decide)))
  have fr8_5:=hM.fx _ (List.mem_of_getElem? (i:=1) rfl) (Or.inl (hl9 5 (by decide)))
  replace hM:=hM.st
  simp only [pickBs] at hM
  rw [if_pos (hl9 9 (by decide))] at hM
  clear hl9 hs9 h09 hn9
  generalize p9 3 = q3 at *
  obtain ⟨Ar8_3,Nr8_3,Cr8_3⟩:=q3
  simp only [] at fr8_3
  generalize p9 5 = q5 at *
  obtain ⟨Ar8_5,Nr8_5,Cr8_5⟩:=q5
  simp only [] at fr8_5
  clear hS
  have hS:=hM
  clear hM
  simp only [Puts.lay,List.setIfInBounds_toArray,List.set_cons_zero,List.set_cons_succ]
  obtain ⟨⟨ya,yb,yc,-⟩,⟨yd,ye,yf,-⟩,-⟩:=hS.cells
  have Q_:=hS.frozen (b:=w.heap.size+1) (cs:=#[.bool s,.slice Ar8_5 Nr8_5 Cr8_5,.int .i64 (x+(z:Int))]) (t:=58) (by simp)
  have fz0:=Q_ 0
  have fz1:=Q_ 1
  have fz2:=Q_ 2
  clear Q_
  have F5:=hide fr8_5
  clear fr8_5 fr8_3
  go_wp2
  exact bodyPost_ret (v:=.tuple #[.agg #[.bool s,.slice Ar8_5 Nr8_5 Cr8_5,.int .i64 (x+(z:Int))],.int .i64 0]) (by simp [results,Tryz.results96,go_sem,yd,ye,yf]) rfl
   ⟨⟨_,_,_,rfl,((((unhide F5).set (by simp) _).set (by simp) _).set (by simp) _).mono (by simp; omega)⟩,((hS.fr.setCell (by simp) _).setCell (by simp) _).setCell (by simp) _⟩
end Go.Proofs.YtaidedkpfnidpaaGreatDoor
