/- Of what SoftFmasRow stands on: ExWorth. -/
import Derived.Test.YtfimakkpdjppfaaGreatDoorPaz
import Derived.Test.YtfimakkpdjppfaaGreatDoorPba
namespace Go.Proofs.YtfimakkpdjppfaaGreatDoor
open Go.RowKit
set_option maxHeartbeats 1000000
theorem Mine.room {w:World} {base:Nat} {a:Option Addr} {n c m:Nat} (h:Mine w base a n c m):n≤c∧c≤9223372036854775807:=by
 obtain ⟨xs,_,ho,_⟩:=h
 rcases ho with ⟨e,_⟩|⟨g',cap',cur,e,hg,hh,h1,h2,h3,hc⟩
 ·cases e; omega
 ·cases e; omega
theorem st_mine (base:Nat) (a:Option Addr) (n c m:Nat):St base (fun W=>Mine W base a n c m):=⟨fun _ _ hb h=>h.kept hb,fun _ _ u hp h=>h.set hp u⟩
theorem worth_normal (s:Bool) (ex:Int) (fr hid:Nat) (x:Int) (M z:Nat) (xe:Int) (w:World) (hM0:0 < M) (hM64:M < 18446744073709551616) (hT:Tb w) (hz:Tz M z) (hz2:z < 524288) (hb1:-1073741824≤xe+z∧xe+z≤1073741824) (hor:bits BinOp.or .u64 (fr:Int) (hid:Int) = (M:Int)) (hxe:x+(ex - 1) = xe) (hex:0≤ex∧ex≤4096) :
  Calls Tryz.prog 79 #[.int .u8 3,.agg #[.bool s,.int .i64 ex,.int .u64 fr],.int .u64 hid,.int .i64 x] w fun e w'=>(∃ A N C,e = .returned (.tuple #[.agg #[.bool s,.slice A N C,.int .i64 (xe+(z:Int))],.int .i64 0])∧Mine w' w.heap.size A N C (M / 2 ^ z))∧Below w.heap.size w w':=by
 have HT:=hide hT
 have HZ:=hide hz
 have HM0:=hide hM0
 clear hT hz hM0
 go_enter Tryz.func79,Tryz.ntmps79
 go_wp2_with fail
 have hS:Fs w ((w.alloc (.cells #[.bool s,.int .i64 ex,.int .u64 fr] 108)).alloc (.cells #[.bool false,.slice none 0 0,.int .i64 0] 46)) [⟨w.heap.size,#[.bool s,.int .i64 ex,.int .u64 fr],108⟩,⟨w.heap.size+1,#[.bool false,.slice none 0 0,.int .i64 0],46⟩]:=Fs.two w _ _ _ _
 have hS3s:w.heap.size≤((w.alloc (.cells #[.bool s,.int .i64 ex,.int .u64 fr] 108)).alloc (.cells #[.bool false,.slice none 0 0,.int .i64 0] 46)).heap.size:=hS.size
 have hs9:∀ x9:Nat×(Pk→World→Prop),x9∈([(3,fun q W=>Mine W ((w.alloc (.cells #[.bool s,.int .i64 ex,.int .u64 fr] 108)).alloc (.cells #[.bool false,.slice none 0 0,.int .i64 0] 46)).heap.size q.A q.N q.C M),(5,fun q W=>Mine W ((w.alloc (.cells #[.bool s,.int .i64 ex,.int .u64 fr] 108)).alloc (.cells #[.bool false,.slice none 0 0,.int .i64 0] 46)).heap.size q.A q.N q.C (M / 2 ^ z))]:List (Nat×(Pk→World→Prop)))→∀ q9:Pk,St ((w.alloc (.cells #[.bool s,.int .i64 ex,.int .u64 fr] 108)).alloc (.cells #[.bool false,.slice none 0 0,.int .i64 0] 46)).heap.size (x9.2 q9):=by
  intro x hx q
  simp only [List.mem_cons,List.not_mem_nil,or_false] at hx
  rcases hx with rfl|rfl
  ·exact st_mine _ _ _ _ _
  ·exact st_mine _ _ _ _ _
 have h09:∀ x9:Nat×(Pk→World→Prop),x9∈([(3,fun q W=>Mine W ((w.alloc (.cells #[.bool s,.int .i64 ex,.int .u64 fr] 108)).alloc (.cells #[.bool false,.slice none 0 0,.int .i64 0] 46)).heap.size q.A q.N q.C M),(5,fun q W=>Mine W ((w.alloc (.cells #[.bool s,.int .i64 ex,.int .u64 fr] 108)).alloc (.cells #[.bool false,.slice none 0 0,.int .i64 0] 46)).heap.size q.A q.N q.C (M / 2 ^ z))]:List (Nat×(Pk→World→Prop)))→11≤x9.1→x9.2 ⟨none,0,0⟩ ((w.alloc (.cells #[.bool s,.int .i64 ex,.int .u64 fr] 108)).alloc (.cells #[.bool false,.slice none 0 0,.int .i64 0] 46)):=by
  intro x hx hn9
  simp only [List.mem_cons,List.not_mem_nil,or_false] at hx
  rcases hx with rfl|rfl
  ·exact absurd hn9 (by simp)
  ·exact absurd hn9 (by simp)
 refine wp_region_any (by kernel_rfl) ?_
 refine wpAny_pick (fun p9=>[some (29,.pointer (some ⟨w.heap.size,0,none⟩)),some (30,.bool s),some (31,.int .u64 M),some (32,.agg #[.slice (p9 3).A (p9 3).N (p9 3).C]),some (33,.int .i64 xe),some (34,.tuple #[.agg #[.bool s,.slice (p9 5).A (p9 5).N (p9 5).C,.int .i64 (xe+(z:Int))],.int .i64 0]),some (28,.tuple #[.agg #[.bool s,.slice (p9 5).A (p9 5).N (p9 5).C,.int .i64 (xe+(z:Int))],.int .i64 0]),some (35,.agg #[.bool s,.slice (p9 5).A (p9 5).N (p9 5).C,.int .i64 (xe+(z:Int))]),some (36,.int .i64 0),none,some (9,.int .i64 0)])
  (fun p9 l9 W9=>Pm w ((w.alloc (.cells #[.bool s,.int .i64 ex,.int .u64 fr] 108)).alloc (.cells #[.bool false,.slice none 0 0,.int .i64 0] 46)).heap.size [(3,fun q W=>Mine W ((w.alloc (.cells #[.bool s,.int .i64 ex,.int .u64 fr] 108)).alloc (.cells #[.bool false,.slice none 0 0,.int .i64 0] 46)).heap.size q.A q.N q.C M),(5,fun q W=>Mine W ((w.alloc (.cells #[.bool s,.int .i64 ex,.int .u64 fr] 108)).alloc (.cells #[.bool false,.slice none 0 0,.int .i64 0] 46)).heap.size q.A q.N q.C (M / 2 ^ z))] p9 l9 W9 (pickBs l9 [(9,[⟨w.heap.size,#[.bool s,.int .i64 ex,.int .u64 fr],108⟩,⟨w.heap.size+1,#[.bool s,.slice (p9 5).A (p9 5).N (p9 5).C,.int .i64 (xe+(z:Int))],46⟩])] [⟨w.heap.size,#[.bool s,.int .i64 ex,.int .u64 fr],108⟩,⟨w.heap.size+1,#[.bool false,.slice none 0 0,.int .i64 0],46⟩])) _ _ (fun _=>rfl) (by kernel_rfl) (fun _=>rfl) (fun _=>rfl) ?_ ?_ (fun _=>⟨none,0,0⟩) (Pm.start hS _ _ _ hs9 h09)
 ·intro p9 l9 t9 W9 i9 hD hi9 hl9 hM
  obtain ⟨o9,ho9,hd9⟩:=(mem_ready.1 hi9).2
  have hin9:i9 < 11:=by
   by_cases h:i9 < 11
   ·exact h
   ·rw [Array.getElem?_eq_none (by rw [hD.len]; simp; omega)] at hl9; cases hl9
  have hcase:i9 = 0∨i9 = 1∨i9 = 2∨i9 = 3∨i9 = 4∨i9 = 5∨i9 = 6∨i9 = 7∨i9 = 8∨i9 = 9∨i9 = 10:=by omega
  clear hin9
  rcases hcase with rfl|rfl|rfl|rfl|rfl|rfl|rfl|rfl|rfl|rfl|rfl
  ·cases ho9
   have r5:=hD.old 5 _ rfl rfl
   refine wpOp_step rfl fun K hK=>?_
   go_simp
   exact hK _ _ ⟨p9,fun _ _=>rfl,rfl,(Pm.keepM rfl (hM.val rfl))⟩
  ·cases ho9
   have r29:=hD.od hd9 0 29 _ rfl (by simp)
   have hM0:Fs w W9 [⟨w.heap.size,#[.bool s,.int .i64 ex,.int .u64 fr],108⟩,⟨w.heap.size+1,#[.bool false,.slice none 0 0,.int .i64 0],46⟩]:=by
    have hM1:=hM.st
    simp only [pickBs] at hM1
    rw [if_neg (hD.waits 1 9 _ ⟨1,.phase⟩ hl9 rfl (by simp) rfl rfl)] at hM1
    exact hM1
   have c9_0:=hM0.cellAt (b:=w.heap.size) (cs:=#[.bool s,.int .i64 ex,.int .u64 fr]) (t:=108) (by simp) 0 _ rfl
   clear hM0
   refine wpOp_step rfl fun K hK=>?_
   go_simp
   exact hK _ _ ⟨p9,fun _ _=>rfl,rfl,(Pm.keepM rfl (hM.val rfl))⟩
  ·cases ho9
   have r10:=hD.old 10 _ rfl rfl
   refine wpOp_step rfl fun K hK=>?_
   go_simp
   exact hK _ _ ⟨p9,fun _ _=>rfl,rfl,(Pm.keepM rfl (hM.val rfl))⟩
  ·cases ho9
   have r31:=hD.od hd9 2 31 _ rfl (by simp)
   have hM0:Fs w W9 [⟨w.heap.size,#[.bool s,.int .i64 ex,.int .u64 fr],108⟩,⟨w.heap.size+1,#[.bool false,.slice none 0 0,.int .i64 0],46⟩]:=by
    have hM1:=hM.st
    simp only [pickBs] at hM1
    rw [if_neg (hD.waits 3 9 _ ⟨3,.phase⟩ hl9 rfl (by simp) rfl rfl)] at hM1
    exact hM1
   have HD:=hide hD
   have hn9:=hD.waits 3 9 _ ⟨3,.phase⟩ hl9 rfl (by simp) rfl rfl
   refine wpOp_step rfl fun K hK=>?_
   go_simp
   go_wp2_with fail
   refine (of_any M _ hM64).mono ?_
   rintro en w9 ⟨⟨a9,n9,c9,rfl,h9⟩,hb9⟩
   refine hK _ _ ⟨p9.set 3 ⟨a9,n9,c9⟩,?_,rfl,(Pm.keepM rfl (((hM.kept hs9 hb9).pick ⟨a9,n9,c9⟩ ?_).into (by simp only [pickBs]; rw [if_neg hn9,if_neg hn9])))⟩
   ·refine (unhide HD).agree hl9 ?_
    intro k9 hk9 hd9
    clear HD hM hK
    match k9 with
    | 0=>rfl
    | 1=>rfl
    | 2=>rfl
    | 3=>exact absurd rfl hk9
    | 4=>rfl
    | 5=>exact nomatch hd9.symm.trans (show downB _ _ _ _ = true by kernel_rfl)
    | 6=>exact nomatch hd9.symm.trans (show downB _ _ _ _ = true by kernel_rfl)
    | 7=>exact nomatch hd9.symm.trans (show downB _ _ _ _ = true by kernel_rfl)
    | 8=>exact nomatch hd9.symm.trans (show downB _ _ _ _ = true by kernel_rfl)
    | 9=>exact nomatch hd9.symm.trans (show downB _ _ _ _ = true by kernel_rfl)
    | 10=>exact nomatch hd9.symm.trans (show downB _ _ _ _ = true by kernel_rfl)
    | k9+11=>rfl
   ·intro x hx he; simp only [List.mem_cons,List.not_mem_nil,or_false] at hx; rcases hx with rfl|rfl
    ·exact h9.mono hM.bw
    ·exact absurd he (by simp)
  ·cases ho9
   have r3:=hD.old 3 _ rfl rfl
   refine wpOp_step rfl fun K hK=>?_
   go_simp
   exact hK _ _ ⟨p9,fun _ _=>rfl,rfl,(Pm.keepM rfl (hM.val rfl))⟩
  ·cases ho9
   have r30:=hD.od hd9 1 30 _ rfl (by simp)
   have r32:=hD.od hd9 3 32 _ rfl (by simp)
   have r33:=hD.od hd9 4 33 _ rfl (by simp)
   have g3:=hM.fx _ (List.mem_of_getElem? (i:=0) rfl) (Or.inl (getD_true (hd9 ⟨3,.data⟩ (by simp) rfl)))
   simp only [] at g3
   have hM0:Fs w W9 [⟨w.heap.size,#[.bool s,.int .i64 ex,.int .u64 fr],108⟩,⟨w.heap.size+1,#[.bool false,.slice none 0 0,.int .i64 0],46⟩]:=by
    have hM1:=hM.st
    simp only [pickBs] at hM1
    rw [if_neg (hD.waits 5 9 _ ⟨5,.chain⟩ hl9 rfl (by simp) rfl rfl)] at hM1
    exact hM1
   have HD:=hide hD
   have hn9:=hD.waits 5 9 _ ⟨5,.chain⟩ hl9 rfl (by simp) rfl rfl
   refine wpOp_step rfl fun K hK=>?_
   go_simp
   go_wp2_with fail
   refine (make_ok s (p9 3).A (p9 3).N (p9 3).C M z xe _ g3.num (unhide HM0) ((unhide HT).kept hM.st.fr) (unhide HZ) hz2 g3.room.1 g3.room.2 hb1).mono ?_
   rintro en w9 ⟨⟨a9,n9,c9,rfl,h9⟩,hb9⟩
   refine hK _ _ ⟨p9.set 5 ⟨a9,n9,c9⟩,?_,rfl,(Pm.keepM rfl (((hM.kept hs9 hb9).pick ⟨a9,n9,c9⟩ ?_).into (by simp only [pickBs]; rw [if_neg hn9,if_neg hn9])))⟩
   ·refine (unhide HD).agree hl9 ?_
    intro k9 hk9 hd9
    clear HD hM hK
    match k9 with
    | 0=>rfl
    | 1=>rfl
    | 2=>rfl
    | 3=>rfl
    | 4=>rfl
    | 5=>exact absurd rfl hk9
    | 6=>exact nomatch hd9.symm.trans (show downB _ _ _ _ = true by kernel_rfl)
    | 7=>exact nomatch hd9.symm.trans (show downB _ _ _ _ = true by kernel_rfl)
    | 8=>exact nomatch hd9.symm.trans (show downB _ _ _ _ = true by kernel_rfl)
    | 9=>exact nomatch hd9.symm.trans (show downB _ _ _ _ = true by kernel_rfl)
    | 10=>exact nomatch hd9.symm.trans (show downB _ _ _ _ = true by kernel_rfl)
    | k9+11=>rfl
   ·intro x hx he; simp only [List.mem_cons,List.not_mem_nil,or_false] at hx; rcases hx with rfl|rfl
    ·exact absurd he (by simp)
    ·exact h9.mono hM.bw
  ·cases ho9
   have r34:=hD.od hd9 5 34 _ rfl (by simp)
   refine wpOp_step rfl fun K hK=>?_
   go_simp
   exact hK _ _ ⟨p9,fun _ _=>rfl,rfl,(Pm.keepM rfl (hM.val rfl))⟩
  ·cases ho9
   have r28:=hD.od hd9 6 28 _ rfl (by simp)
   refine wpOp_step rfl fun K hK=>?_
   go_simp
   exact hK _ _ ⟨p9,fun _ _=>rfl,rfl,(Pm.keepM rfl (hM.val rfl))⟩
  ·cases ho9
   have r28:=hD.od hd9 6 28 _ rfl (by simp)
   refine wpOp_step rfl fun K hK=>?_
   go_simp
   exact hK _ _ ⟨p9,fun _ _=>rfl,rfl,(Pm.keepM rfl (hM.val rfl))⟩
  ·cases ho9
   have r8:=hD.old 8 _ rfl rfl
   have r35:=hD.od hd9 7 35 _ rfl (by simp)
   have hM0:Fs w W9 [⟨w.heap.size,#[.bool s,.int .i64 ex,.int .u64 fr],108⟩,⟨w.heap.size+1,#[.bool false,.slice none 0 0,.int .i64 0],46⟩]:=by
    have hM1:=hM.st
    simp only [pickBs] at hM1
    rw [if_neg (by rw [hl9]; simp)] at hM1
    exact hM1
   have c9_0:=hM0.cellAt (b:=w.heap.size+1) (cs:=#[.bool false,.slice none 0 0,.int .i64 0]) (t:=46) (by simp) 0 _ rfl
   have z9_0:=hM0.frozen (b:=w.heap.size+1) (cs:=#[.bool false,.slice none 0 0,.int .i64 0]) (t:=46) (by simp) 0
   have c9_1:=hM0.cellAt (b:=w.heap.size+1) (cs:=#[.bool false,.slice none 0 0,.int .i64 0]) (t:=46) (by simp) 1 _ rfl
   have z9_1:=hM0.frozen (b:=w.heap.size+1) (cs:=#[.bool false,.slice none 0 0,.int .i64 0]) (t:=46) (by simp) 1
   have c9_2:=hM0.cellAt (b:=w.heap.size+1) (cs:=#[.bool false,.slice none 0 0,.int .i64 0]) (t:=46) (by simp) 2 _ rfl
   have z9_2:=hM0.frozen (b:=w.heap.size+1) (cs:=#[.bool false,.slice none 0 0,.int .i64 0]) (t:=46) (by simp) 2
   refine wpOp_step rfl fun K hK=>?_
   go_simp
   exact hK _ _ ⟨p9,fun _ _=>rfl,rfl,Pm.putM hl9 ((((hM.val rfl).put hs9 _ _ (block_lt (hS.bx _ (List.mem_of_getElem? (i:=1) rfl))) (hM0.put (b:=w.heap.size+1) (cs:=#[.bool false,.slice none 0 0,.int .i64 0]) (t:=46) (by simp) (by simp) 0 (.bool s) [⟨w.heap.size,#[.bool s,.int .i64 ex,.int .u64 fr],108⟩,⟨w.heap.size+1,#[.bool s,.slice none 0 0,.int .i64 0],46⟩] (by simp <;> omega))).put hs9 _ _ (block_lt (hS.bx _ (List.mem_of_getElem? (i:=1) rfl))) ((hM0.put (b:=w.heap.size+1) (cs:=#[.bool false,.slice none 0 0,.int .i64 0]) (t:=46) (by simp) (by simp) 0 (.bool s) [⟨w.heap.size,#[.bool s,.int .i64 ex,.int .u64 fr],108⟩,⟨w.heap.size+1,#[.bool s,.slice none 0 0,.int .i64 0],46⟩] (by simp <;> omega)).put (b:=w.heap.size+1) (cs:=#[.bool s,.slice none 0 0,.int .i64 0]) (t:=46) (by simp) (by simp) 1 (.slice (p9 5).A (p9 5).N (p9 5).C) [⟨w.heap.size,#[.bool s,.int .i64 ex,.int .u64 fr],108⟩,⟨w.heap.size+1,#[.bool s,.slice (p9 5).A (p9 5).N (p9 5).C,.int .i64 0],46⟩] (by simp <;> omega))).put hs9 _ _ (block_lt (hS.bx _ (List.mem_of_getElem? (i:=1) rfl))) (((hM0.put (b:=w.heap.size+1) (cs:=#[.bool false,.slice none 0 0,.int .i64 0]) (t:=46) (by simp) (by simp) 0 (.bool s) [⟨w.heap.size,#[.bool s,.int .i64 ex,.int .u64 fr],108⟩,⟨w.heap.size+1,#[.bool s,.slice none 0 0,.int .i64 0],46⟩] (by simp <;> omega)).put (b:=w.heap.size+1) (cs:=#[.bool s,.slice none 0 0,.int .i64 0]) (t:=46) (by simp) (by simp) 1 (.slice (p9 5).A (p9 5).N (p9 5).C) [⟨w.heap.size,#[.bool s,.int .i64 ex,.int .u64 fr],108⟩,⟨w.heap.size+1,#[.bool s,.slice (p9 5).A (p9 5).N (p9 5).C,.int .i64 0],46⟩] (by simp <;> omega)).put (b:=w.heap.size+1) (cs:=#[.bool s,.slice (p9 5).A (p9 5).N (p9 5).C,.int .i64 0]) (t:=46) (by simp) (by simp) 2 (.int .i64 (xe+(z:Int))) [⟨w.heap.size,#[.bool s,.int .i64 ex,.int .u64 fr],108⟩,⟨w.heap.size+1,#[.bool s,.slice (p9 5).A (p9 5).N (p9 5).C,.int .i64 (xe+(z:Int))],46⟩] (by simp <;> omega)))⟩
  ·cases ho9
   have r36:=hD.od hd9 8 36 _ rfl (by simp)
   refine wpOp_step rfl fun K hK=>?_
   go_simp
   exact hK _ _ ⟨p9,fun _ _=>rfl,rfl,(Pm.keepM rfl (hM.val rfl))⟩
 ·intro p9 l9 W9 hn9 hl9 hM
  have fr8_3:=hM.fx _ (List.mem_of_getElem? (i:=0) rfl) (Or.inl (hl9 3 (by decide)))
  have fr8_5:=hM.fx _ (List.mem_of_getElem? (i:=1) rfl) (Or.inl (hl9 5 (by decide)))
  replace hM:=hM.st
  simp only [pickBs] at hM
  rw [if_pos (hl9 9 (by decide))] at hM
  clear hl9 hs9 h09 hn9
  generalize p9 3 = q3 at *
  obtain ⟨Ar8_3,Nr8_3,Cr8_3⟩:=q3
  simp only [] at fr8_3
  generalize p9 5 = q5 at *
  obtain ⟨Ar8_5,Nr8_5,Cr8_5⟩:=q5
  simp only [] at fr8_5
  clear hS
  have hS:=hM
  clear hM
  simp only [Puts.lay,List.setIfInBounds_toArray,List.set_cons_zero,List.set_cons_succ]
  obtain ⟨⟨ya,yb,yc,-⟩,⟨yd,ye,yf,-⟩,-⟩:=hS.cells
  have Q_:=hS.frozen (b:=w.heap.size+1) (cs:=#[.bool s,.slice Ar8_5 Nr8_5 Cr8_5,.int .i64 (xe+(z:Int))]) (t:=46) (by simp)
  have fz0:=Q_ 0
  have fz1:=Q_ 1
  have fz2:=Q_ 2
  clear Q_
  have F5:=hide fr8_5
  clear fr8_5 fr8_3
  go_wp2
  exact bodyPost_ret (v:=.tuple #[.agg #[.bool s,.slice Ar8_5 Nr8_5 Cr8_5,.int .i64 (xe+(z:Int))],.int .i64 0]) (by simp [results,Tryz.results79,go_sem,yd,ye,yf]) rfl
   ⟨⟨_,_,_,rfl,((((unhide F5).set (by simp) _).set (by simp) _).set (by simp) _).mono (by simp; omega)⟩,((hS.fr.setCell (by simp) _).setCell (by simp) _).setCell (by simp) _⟩
theorem worth_small (s:Bool) (ex:Int) (fr hid:Nat) (x:Int) (M z:Nat) (xe:Int) (w:World) (hM0:0 < M) (hM64:M < 18446744073709551616) (hT:Tb w) (hz:Tz M z) (hz2:z < 524288) (hb1:-1073741824≤xe+z∧xe+z≤1073741824) (hfr:fr = M) (hxe:x = xe) :
  Calls Tryz.prog 79 #[.int .u8 2,.agg #[.bool s,.int .i64 ex,.int .u64 fr],.int .u64 hid,.int .i64 x] w fun e w'=>(∃ A N C,e = .returned (.tuple #[.agg #[.bool s,.slice A N C,.int .i64 (xe+(z:Int))],.int .i64 0])∧Mine w' w.heap.size A N C (M / 2 ^ z))∧Below w.heap.size w w':=by
 have HT:=hide hT
 have HZ:=hide hz
 have HM0:=hide hM0
 clear hT hz hM0
 subst hfr
 subst hxe
 go_enter Tryz.func79,Tryz.ntmps79
 go_wp2_with fail
 have hS:Fs w ((w.alloc (.cells #[.bool s,.int .i64 ex,.int .u64 fr] 108)).alloc (.cells #[.bool false,.slice none 0 0,.int .i64 0] 46)) [⟨w.heap.size,#[.bool s,.int .i64 ex,.int .u64 fr],108⟩,⟨w.heap.size+1,#[.bool false,.slice none 0 0,.int .i64 0],46⟩]:=Fs.two w _ _ _ _
 have hS3s:w.heap.size≤((w.alloc (.cells #[.bool s,.int .i64 ex,.int .u64 fr] 108)).alloc (.cells #[.bool false,.slice none 0 0,.int .i64 0] 46)).heap.size:=hS.size
 have hs9:∀ x9:Nat×(Pk→World→Prop),x9∈([(3,fun q W=>Mine W ((w.alloc (.cells #[.bool s,.int .i64 ex,.int .u64 fr] 108)).alloc (.cells #[.bool false,.slice none 0 0,.int .i64 0] 46)).heap.size q.A q.N q.C fr),(5,fun q W=>Mine W ((w.alloc (.cells #[.bool s,.int .i64 ex,.int .u64 fr] 108)).alloc (.cells #[.bool false,.slice none 0 0,.int .i64 0] 46)).heap.size q.A q.N q.C (fr / 2 ^ z))]:List (Nat×(Pk→World→Prop)))→∀ q9:Pk,St ((w.alloc (.cells #[.bool s,.int .i64 ex,.int .u64 fr] 108)).alloc (.cells #[.bool false,.slice none 0 0,.int .i64 0] 46)).heap.size (x9.2 q9):=by
  intro x hx q
  simp only [List.mem_cons,List.not_mem_nil,or_false] at hx
  rcases hx with rfl|rfl
  ·exact st_mine _ _ _ _ _
  ·exact st_mine _ _ _ _ _
 have h09:∀ x9:Nat×(Pk→World→Prop),x9∈([(3,fun q W=>Mine W ((w.alloc (.cells #[.bool s,.int .i64 ex,.int .u64 fr] 108)).alloc (.cells #[.bool false,.slice none 0 0,.int .i64 0] 46)).heap.size q.A q.N q.C fr),(5,fun q W=>Mine W ((w.alloc (.cells #[.bool s,.int .i64 ex,.int .u64 fr] 108)).alloc (.cells #[.bool false,.slice none 0 0,.int .i64 0] 46)).heap.size q.A q.N q.C (fr / 2 ^ z))]:List (Nat×(Pk→World→Prop)))→11≤x9.1→x9.2 ⟨none,0,0⟩ ((w.alloc (.cells #[.bool s,.int .i64 ex,.int .u64 fr] 108)).alloc (.cells #[.bool false,.slice none 0 0,.int .i64 0] 46)):=by
  intro x hx hn9
  simp only [List.mem_cons,List.not_mem_nil,or_false] at hx
  rcases hx with rfl|rfl
  ·exact absurd hn9 (by simp)
  ·exact absurd hn9 (by simp)
 refine wp_region_any (by kernel_rfl) ?_
 refine wpAny_pick (fun p9=>[some (29,.pointer (some ⟨w.heap.size,0,none⟩)),some (30,.bool s),some (31,.int .u64 fr),some (32,.agg #[.slice (p9 3).A (p9 3).N (p9 3).C]),some (33,.int .i64 x),some (34,.tuple #[.agg #[.bool s,.slice (p9 5).A (p9 5).N (p9 5).C,.int .i64 (x+(z:Int))],.int .i64 0]),some (28,.tuple #[.agg #[.bool s,.slice (p9 5).A (p9 5).N (p9 5).C,.int .i64 (x+(z:Int))],.int .i64 0]),some (35,.agg #[.bool s,.slice (p9 5).A (p9 5).N (p9 5).C,.int .i64 (x+(z:Int))]),some (36,.int .i64 0),none,some (9,.int .i64 0)])
  (fun p9 l9 W9=>Pm w ((w.alloc (.cells #[.bool s,.int .i64 ex,.int .u64 fr] 108)).alloc (.cells #[.bool false,.slice none 0 0,.int .i64 0] 46)).heap.size [(3,fun q W=>Mine W ((w.alloc (.cells #[.bool s,.int .i64 ex,.int .u64 fr] 108)).alloc (.cells #[.bool false,.slice none 0 0,.int .i64 0] 46)).heap.size q.A q.N q.C fr),(5,fun q W=>Mine W ((w.alloc (.cells #[.bool s,.int .i64 ex,.int .u64 fr] 108)).alloc (.cells #[.bool false,.slice none 0 0,.int .i64 0] 46)).heap.size q.A q.N q.C (fr / 2 ^ z))] p9 l9 W9 (pickBs l9 [(9,[⟨w.heap.size,#[.bool s,.int .i64 ex,.int .u64 fr],108⟩,⟨w.heap.size+1,#[.bool s,.slice (p9 5).A (p9 5).N (p9 5).C,.int .i64 (x+(z:Int))],46⟩])] [⟨w.heap.size,#[.bool s,.int .i64 ex,.int .u64 fr],108⟩,⟨w.heap.size+1,#[.bool false,.slice none 0 0,.int .i64 0],46⟩])) _ _ (fun _=>rfl) (by kernel_rfl) (fun _=>rfl) (fun _=>rfl) ?_ ?_ (fun _=>⟨none,0,0⟩) (Pm.start hS _ _ _ hs9 h09)
 ·intro p9 l9 t9 W9 i9 hD hi9 hl9 hM
  obtain ⟨o9,ho9,hd9⟩:=(mem_ready.1 hi9).2
  have hin9:i9 < 11:=by
   by_cases h:i9 < 11
   ·exact h
   ·rw [Array.getElem?_eq_none (by rw [hD.len]; simp; omega)] at hl9; cases hl9
  have hcase:i9 = 0∨i9 = 1∨i9 = 2∨i9 = 3∨i9 = 4∨i9 = 5∨i9 = 6∨i9 = 7∨i9 = 8∨i9 = 9∨i9 = 10:=by omega
  clear hin9
  rcases hcase with rfl|rfl|rfl|rfl|rfl|rfl|rfl|rfl|rfl|rfl|rfl
  ·cases ho9
   have r5:=hD.old 5 _ rfl rfl
   refine wpOp_step rfl fun K hK=>?_
   go_simp
   exact hK _ _ ⟨p9,fun _ _=>rfl,rfl,(Pm.keepM rfl (hM.val rfl))⟩
  ·cases ho9
   have r29:=hD.od hd9 0 29 _ rfl (by simp)
   have hM0:Fs w W9 [⟨w.heap.size,#[.bool s,.int .i64 ex,.int .u64 fr],108⟩,⟨w.heap.size+1,#[.bool false,.slice none 0 0,.int .i64 0],46⟩]:=by
    have hM1:=hM.st
    simp only [pickBs] at hM1
    rw [if_neg (hD.waits 1 9 _ ⟨1,.phase⟩ hl9 rfl (by simp) rfl rfl)] at hM1
    exact hM1
   have c9_0:=hM0.cellAt (b:=w.heap.size) (cs:=#[.bool s,.int .i64 ex,.int .u64 fr]) (t:=108) (by simp) 0 _ rfl
   clear hM0
   refine wpOp_step rfl fun K hK=>?_
   go_simp
   exact hK _ _ ⟨p9,fun _ _=>rfl,rfl,(Pm.keepM rfl (hM.val rfl))⟩
  ·cases ho9
   have r10:=hD.old 10 _ rfl rfl
   refine wpOp_step rfl fun K hK=>?_
   go_simp
   exact hK _ _ ⟨p9,fun _ _=>rfl,rfl,(Pm.keepM rfl (hM.val rfl))⟩
  ·cases ho9
   have r31:=hD.od hd9 2 31 _ rfl (by simp)
   have hM0:Fs w W9 [⟨w.heap.size,#[.bool s,.int .i64 ex,.int .u64 fr],108⟩,⟨w.heap.size+1,#[.bool false,.slice none 0 0,.int .i64 0],46⟩]:=by
    have hM1:=hM.st
    simp only [pickBs] at hM1
    rw [if_neg (hD.waits 3 9 _ ⟨3,.phase⟩ hl9 rfl (by simp) rfl rfl)] at hM1
    exact hM1
   have HD:=hide hD
   have hn9:=hD.waits 3 9 _ ⟨3,.phase⟩ hl9 rfl (by simp) rfl rfl
   refine wpOp_step rfl fun K hK=>?_
   go_simp
   go_wp2_with fail
   refine (of_any fr _ hM64).mono ?_
   rintro en w9 ⟨⟨a9,n9,c9,rfl,h9⟩,hb9⟩
   refine hK _ _ ⟨p9.set 3 ⟨a9,n9,c9⟩,?_,rfl,(Pm.keepM rfl (((hM.kept hs9 hb9).pick ⟨a9,n9,c9⟩ ?_).into (by simp only [pickBs]; rw [if_neg hn9,if_neg hn9])))⟩
   ·refine (unhide HD).agree hl9 ?_
    intro k9 hk9 hd9
    clear HD hM hK
    match k9 with
    | 0=>rfl
    | 1=>rfl
    | 2=>rfl
    | 3=>exact absurd rfl hk9
    | 4=>rfl
    | 5=>exact nomatch hd9.symm.trans (show downB _ _ _ _ = true by kernel_rfl)
    | 6=>exact nomatch hd9.symm.trans (show downB _ _ _ _ = true by kernel_rfl)
    | 7=>exact nomatch hd9.symm.trans (show downB _ _ _ _ = true by kernel_rfl)
    | 8=>exact nomatch hd9.symm.trans (show downB _ _ _ _ = true by kernel_rfl)
    | 9=>exact nomatch hd9.symm.trans (show downB _ _ _ _ = true by kernel_rfl)
    | 10=>exact nomatch hd9.symm.trans (show downB _ _ _ _ = true by kernel_rfl)
    | k9+11=>rfl
   ·intro x hx he; simp only [List.mem_cons,List.not_mem_nil,or_false] at hx; rcases hx with rfl|rfl
    ·exact h9.mono hM.bw
    ·exact absurd he (by simp)
  ·cases ho9
   have r3:=hD.old 3 _ rfl rfl
   refine wpOp_step rfl fun K hK=>?_
   go_simp
   exact hK _ _ ⟨p9,fun _ _=>rfl,rfl,(Pm.keepM rfl (hM.val rfl))⟩
  ·cases ho9
   have r30:=hD.od hd9 1 30 _ rfl (by simp)
   have r32:=hD.od hd9 3 32 _ rfl (by simp)
   have r33:=hD.od hd9 4 33 _ rfl (by simp)
   have g3:=hM.fx _ (List.mem_of_getElem? (i:=0) rfl) (Or.inl (getD_true (hd9 ⟨3,.data⟩ (by simp) rfl)))
   simp only [] at g3
   have hM0:Fs w W9 [⟨w.heap.size,#[.bool s,.int .i64 ex,.int .u64 fr],108⟩,⟨w.heap.size+1,#[.bool false,.slice none 0 0,.int .i64 0],46⟩]:=by
    have hM1:=hM.st
    simp only [pickBs] at hM1
    rw [if_neg (hD.waits 5 9 _ ⟨5,.chain⟩ hl9 rfl (by simp) rfl rfl)] at hM1
    exact hM1
   have HD:=hide hD
   have hn9:=hD.waits 5 9 _ ⟨5,.chain⟩ hl9 rfl (by simp) rfl rfl
   refine wpOp_step rfl fun K hK=>?_
   go_simp
   go_wp2_with fail
   refine (make_ok s (p9 3).A (p9 3).N (p9 3).C fr z x _ g3.num (unhide HM0) ((unhide HT).kept hM.st.fr) (unhide HZ) hz2 g3.room.1 g3.room.2 hb1).mono ?_
   rintro en w9 ⟨⟨a9,n9,c9,rfl,h9⟩,hb9⟩
   refine hK _ _ ⟨p9.set 5 ⟨a9,n9,c9⟩,?_,rfl,(Pm.keepM rfl (((hM.kept hs9 hb9).pick ⟨a9,n9,c9⟩ ?_).into (by simp only [pickBs]; rw [if_neg hn9,if_neg hn9])))⟩
   ·refine (unhide HD).agree hl9 ?_
    intro k9 hk9 hd9
    clear HD hM hK
    match k9 with
    | 0=>rfl
    | 1=>rfl
    | 2=>rfl
    | 3=>rfl
    | 4=>rfl
    | 5=>exact absurd rfl hk9
    | 6=>exact nomatch hd9.symm.trans (show downB _ _ _ _ = true by kernel_rfl)
    | 7=>exact nomatch hd9.symm.trans (show downB _ _ _ _ = true by kernel_rfl)
    | 8=>exact nomatch hd9.symm.trans (show downB _ _ _ _ = true by kernel_rfl)
    | 9=>exact nomatch hd9.symm.trans (show downB _ _ _ _ = true by kernel_rfl)
    | 10=>exact nomatch hd9.symm.trans (show downB _ _ _ _ = true by kernel_rfl)
    | k9+11=>rfl
   ·intro x hx he; simp only [List.mem_cons,List.not_mem_nil,or_false] at hx; rcases hx with rfl|rfl
    ·exact absurd he (by simp)
    ·exact h9.mono hM.bw
  ·cases ho9
   have r34:=hD.od hd9 5 34 _ rfl (by simp)
   refine wpOp_step rfl fun K hK=>?_
   go_simp
   exact hK _ _ ⟨p9,fun _ _=>rfl,rfl,(Pm.keepM rfl (hM.val rfl))⟩
  ·cases ho9
   have r28:=hD.od hd9 6 28 _ rfl (by simp)
   refine wpOp_step rfl fun K hK=>?_
   go_simp
   exact hK _ _ ⟨p9,fun _ _=>rfl,rfl,(Pm.keepM rfl (hM.val rfl))⟩
  ·cases ho9
   have r28:=hD.od hd9 6 28 _ rfl (by simp)
   refine wpOp_step rfl fun K hK=>?_
   go_simp
   exact hK _ _ ⟨p9,fun _ _=>rfl,rfl,(Pm.keepM rfl (hM.val rfl))⟩
  ·cases ho9
   have r8:=hD.old 8 _ rfl rfl
   have r35:=hD.od hd9 7 35 _ rfl (by simp)
   have hM0:Fs w W9 [⟨w.heap.size,#[.bool s,.int .i64 ex,.int .u64 fr],108⟩,⟨w.heap.size+1,#[.bool false,.slice none 0 0,.int .i64 0],46⟩]:=by
    have hM1:=hM.st
    simp only [pickBs] at hM1
    rw [if_neg (by rw [hl9]; simp)] at hM1
    exact hM1
   have c9_0:=hM0.cellAt (b:=w.heap.size+1) (cs:=#[.bool false,.slice none 0 0,.int .i64 0]) (t:=46) (by simp) 0 _ rfl
   have z9_0:=hM0.frozen (b:=w.heap.size+1) (cs:=#[.bool false,.slice none 0 0,.int .i64 0]) (t:=46) (by simp) 0
   have c9_1:=hM0.cellAt (b:=w.heap.size+1) (cs:=#[.bool false,.slice none 0 0,.int .i64 0]) (t:=46) (by simp) 1 _ rfl
   have z9_1:=hM0.frozen (b:=w.heap.size+1) (cs:=#[.bool false,.slice none 0 0,.int .i64 0]) (t:=46) (by simp) 1
   have c9_2:=hM0.cellAt (b:=w.heap.size+1) (cs:=#[.bool false,.slice none 0 0,.int .i64 0]) (t:=46) (by simp) 2 _ rfl
   have z9_2:=hM0.frozen (b:=w.heap.size+1) (cs:=#[.bool false,.slice none 0 0,.int .i64 0]) (t:=46) (by simp) 2
   refine wpOp_step rfl fun K hK=>?_
   go_simp
   exact hK _ _ ⟨p9,fun _ _=>rfl,rfl,Pm.putM hl9 ((((hM.val rfl).put hs9 _ _ (block_lt (hS.bx _ (List.mem_of_getElem? (i:=1) rfl))) (hM0.put (b:=w.heap.size+1) (cs:=#[.bool false,.slice none 0 0,.int .i64 0]) (t:=46) (by simp) (by simp) 0 (.bool s) [⟨w.heap.size,#[.bool s,.int .i64 ex,.int .u64 fr],108⟩,⟨w.heap.size+1,#[.bool s,.slice none 0 0,.int .i64 0],46⟩] (by simp <;> omega))).put hs9 _ _ (block_lt (hS.bx _ (List.mem_of_getElem? (i:=1) rfl))) ((hM0.put (b:=w.heap.size+1) (cs:=#[.bool false,.slice none 0 0,.int .i64 0]) (t:=46) (by simp) (by simp) 0 (.bool s) [⟨w.heap.size,#[.bool s,.int .i64 ex,.int .u64 fr],108⟩,⟨w.heap.size+1,#[.bool s,.slice none 0 0,.int .i64 0],46⟩] (by simp <;> omega)).put (b:=w.heap.size+1) (cs:=#[.bool s,.slice none 0 0,.int .i64 0]) (t:=46) (by simp) (by simp) 1 (.slice (p9 5).A (p9 5).N (p9 5).C) [⟨w.heap.size,#[.bool s,.int .i64 ex,.int .u64 fr],108⟩,⟨w.heap.size+1,#[.bool s,.slice (p9 5).A (p9 5).N (p9 5).C,.int .i64 0],46⟩] (by simp <;> omega))).put hs9 _ _ (block_lt (hS.bx _ (List.mem_of_getElem? (i:=1) rfl))) (((hM0.put (b:=w.heap.size+1) (cs:=#[.bool false,.slice none 0 0,.int .i64 0]) (t:=46) (by simp) (by simp) 0 (.bool s) [⟨w.heap.size,#[.bool s,.int .i64 ex,.int .u64 fr],108⟩,⟨w.heap.size+1,#[.bool s,.slice none 0 0,.int .i64 0],46⟩] (by simp <;> omega)).put (b:=w.heap.size+1) (cs:=#[.bool s,.slice none 0 0,.int .i64 0]) (t:=46) (by simp) (by simp) 1 (.slice (p9 5).A (p9 5).N (p9 5).C) [⟨w.heap.size,#[.bool s,.int .i64 ex,.int .u64 fr],108⟩,⟨w.heap.size+1,#[.bool s,.slice (p9 5).A (p9 5).N (p9 5).C,.int .i64 0],46⟩] (by simp <;> omega)).put (b:=w.heap.size+1) (cs:=#[.bool s,.slice (p9 5).A (p9 5).N (p9 5).C,.int .i64 0]) (t:=46) (by simp) (by simp) 2 (.int .i64 (x+(z:Int))) [⟨w.heap.size,#[.bool s,.int .i64 ex,.int .u64 fr],108⟩,⟨w.heap.size+1,#[.bool s,.slice (p9 5).A (p9 5).N (p9 5).C,.int .i64 (x+(z:Int))],46⟩] (by simp <;> omega)))⟩
  ·cases ho9
   have r36:=hD.od hd9 8 36 _ rfl (by simp)
   refine wpOp_step rfl fun K hK=>?_
   go_simp
   exact hK _ _ ⟨p9,fun _ _=>rfl,rfl,(Pm.keepM rfl (hM.val rfl))⟩
 ·intro p9 l9 W9 hn9 hl9 hM
  have fr8_3:=hM.fx _ (List.mem_of_getElem? (i:=0) rfl) (Or.inl (hl9 3 (by decide)))
  have fr8_5:=hM.fx _ (List.mem_of_getElem? (i:=1) rfl) (Or.inl (hl9 5 (by decide)))
  replace hM:=hM.st
  simp only [pickBs] at hM
  rw [if_pos (hl9 9 (by decide))] at hM
  clear hl9 hs9 h09 hn9
  generalize p9 3 = q3 at *
  obtain ⟨Ar8_3,Nr8_3,Cr8_3⟩:=q3
  simp only [] at fr8_3
  generalize p9 5 = q5 at *
  obtain ⟨Ar8_5,Nr8_5,Cr8_5⟩:=q5
  simp only [] at fr8_5
  clear hS
  have hS:=hM
  clear hM
  simp only [Puts.lay,List.setIfInBounds_toArray,List.set_cons_zero,List.set_cons_succ]
  obtain ⟨⟨ya,yb,yc,-⟩,⟨yd,ye,yf,-⟩,-⟩:=hS.cells
  have Q_:=hS.frozen (b:=w.heap.size+1) (cs:=#[.bool s,.slice Ar8_5 Nr8_5 Cr8_5,.int .i64 (x+(z:Int))]) (t:=46) (by simp)
  have fz0:=Q_ 0
  have fz1:=Q_ 1
  have fz2:=Q_ 2
  clear Q_
  have F5:=hide fr8_5
  clear fr8_5 fr8_3
  go_wp2
  exact bodyPost_ret (v:=.tuple #[.agg #[.bool s,.slice Ar8_5 Nr8_5 Cr8_5,.int .i64 (x+(z:Int))],.int .i64 0]) (by simp [results,Tryz.results79,go_sem,yd,ye,yf]) rfl
   ⟨⟨_,_,_,rfl,((((unhide F5).set (by simp) _).set (by simp) _).set (by simp) _).mono (by simp; omega)⟩,((hS.fr.setCell (by simp) _).setCell (by simp) _).setCell (by simp) _⟩
end Go.Proofs.YtfimakkpdjppfaaGreatDoor
