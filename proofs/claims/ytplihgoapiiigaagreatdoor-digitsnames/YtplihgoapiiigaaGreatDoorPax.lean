/- Of what DigitsNamesRow stands on: QkFmt. -/
import Derived.Test.YtplihgoapiiigaaGreatDoorPad
import Derived.Test.YtplihgoapiiigaaGreatDoorPau
import Derived.Test.YtplihgoapiiigaaGreatDoorPaw
import Derived.Shelf.Strconv.Itoa3
import Derived.Lib.AppendIntMem
namespace Go.Proofs.YtplihgoapiiigaaGreatDoor
open Go.RowKit Go.Sort Go.Shelf
set_option maxHeartbeats 1000000
set_option maxRecDepth 100000
def smRen:Go.Shelf.Ren where
 f:=fun k=>match k with
  | 283=>130
  | _=>0
 t:=fun k=>match k with
  | 3=>3
  | 4=>4
  | 9=>9
  | _=>0
 g:=fun k=>match k with
  | _=>0
theorem sm_lays:Lays.n283 Tryz.prog smRen:=by
 constructor
 all_goals first
  | kernel_rfl
  | (intro w; kernel_rfl)
  | (constructor <;> first|kernel_rfl|(intro w; kernel_rfl))
def ndRen:Go.Shelf.Ren where
 f:=fun k=>match k with
  | 129=>116
  | 284=>131
  | 317=>145
  | 318=>146
  | _=>0
 t:=fun k=>match k with
  | 0=>0
  | 3=>3
  | 4=>4
  | 5=>5
  | 9=>9
  | 46=>59
  | 53=>28
  | 212=>175
  | _=>0
 g:=fun k=>match k with
  | 17=>1
  | _=>0
theorem nd_lays:LaysM.n284 Tryz.prog ndRen:=by
 constructor
 all_goals first
  | kernel_rfl
  | (intro w; kernel_rfl)
  | (constructor <;> first|kernel_rfl|(intro w; kernel_rfl))
def fbRen:Go.Shelf.Ren where
 f:=fun k=>match k with
  | 285=>132
  | _=>0
 t:=fun k=>match k with
  | 0=>0
  | 3=>3
  | 4=>4
  | 5=>5
  | 9=>9
  | 37=>86
  | 51=>74
  | 53=>28
  | _=>0
 g:=fun k=>match k with
  | _=>0
theorem fb_lays:Lays.n285 Tryz.prog fbRen:=by
 constructor
 all_goals first
  | kernel_rfl
  | (intro w; kernel_rfl)
  | (constructor <;> first|kernel_rfl|(intro w; kernel_rfl))
def Tpw (w : World) : Prop := Lib.TabIs Tryz.prog w "internal/strconv.uint64pow10" .u64 Lib.pow10Tab
theorem Tpw.kept {w w':World} (h:Tpw w) (hb:Below w.heap.size w w'):Tpw w':=Lib.tabBelow_of_tabIs h w' hb
theorem fsmall (i:Nat) (h:i < 100) (W:World):Calls Tryz.prog 130 #[.int .i64 (i:Int)] W fun e W'=>e = .returned (.string ⟨(Lib.decDigits i).toArray⟩)∧W' = W:=
 Any.internal_strconv_small sm_lays i h W
theorem fdigs (u:Nat) (h1:1≤u) (h2:u < 18446744073709551616) (W:World) (ht:Tpw W):Calls Tryz.prog 131 #[.int .u64 (u:Int)] W fun e W'=>e = .returned (.int .i64 (Lib.nDigits u:Int))∧W' = W:=
 Any.internal_strconv_numDigits nd_lays u h1 h2 W ht
theorem fbase (blk off cap u:Nat) (d:Array UInt8) (w:World) (hH:Holds (fun (b:UInt8)=>Value.int .u8 (b.toNat:Int)) w blk off d) (hu:u < 10 ^ d.size) (hu64:u < 18446744073709551616) (hsz:d.size < 4611686018427387904) :
  Calls Tryz.prog 132 #[.slice (some ⟨blk,off,none⟩) d.size cap,.int .u64 (u:Int)] w fun e w'=>
   e = .returned (.tuple #[])∧∃ (n v':Nat) (dk:Array UInt8),w' = (putRow (fun (b:UInt8)=>Value.int .u8 (b.toNat:Int)) w blk off dk).drewN n∧Lib.FmtInv d.size u 0 v' dk:=
 Any.internal_strconv_formatBase10 fb_lays blk off cap u d w hH hu hu64 hsz
theorem fzero (w:World) (T:TypeId) (nd:Nat) (hs:nd≤24):Holds (fun (b:UInt8)=>Value.int .u8 (b.toNat:Int)) (w.alloc (.cells Lib.zeros24 T)) w.heap.size 0 (Array.replicate nd (0:UInt8)):=fun j hj=>by
 have hj':j < nd:=by simpa using hj
 refine ⟨?_,World.frozen?_alloc_new _ _ _ _⟩
 rw [World.cell?_alloc_new,Lib.zeros24_at _ (by omega),getElem!_pos _ j hj]
 simp
theorem ffin (w:World) (o:Obj) (dk:Array UInt8) (k:Nat):∃ os,(putRow (fun (b:UInt8)=>Value.int .u8 (b.toNat:Int)) (w.alloc o) w.heap.size 0 dk).drewN k = grow (w.drewN k) os:=by
 rw [alloc_eq_grow]
 obtain ⟨os',_,e⟩:=putRow_grow_new (fun (b:UInt8)=>Value.int .u8 (b.toNat:Int)) w #[o] w.heap.size 0 dk (Nat.le_refl _)
 exact ⟨os',by rw [e]; rfl⟩
theorem ifmtU (u:Nat) (hu64:u < 18446744073709551616) (w:World) (ht:Tpw w) :
  Calls Tryz.prog 119 #[.int .u64 (u:Int),.int .i64 10] w fun e w'=>e = .returned (.string ⟨(Lib.decDigits u).toArray⟩)∧Below w.heap.size w w':=by
 by_cases hs:u < 100
 ·have hw:IntKind.i64.wrap (u:Int) = (u:Int):=by rw [IntKind.wrap_i64]; omega
  go_enter Tryz.func119,Tryz.ntmps119
  go_wp2_with fail
  refine (fsmall u hs _).mono ?_
  rintro e w' ⟨rfl,rfl⟩
  go_wp2
  go_ret
  exact ⟨rfl,Below.refl _ _⟩
 ·have hnd:Lib.nDigits u≤20:=by have:=Lib.numDigits_eq u (by omega) hu64; split at this <;> omega
  have hal:Tryz.prog.arrayLen 162 = 24:=by kernel_rfl
  have hsl:∀ W,(Instr.sliceAt 162 (.pointer (some ⟨w.heap.size,0,none⟩)) none (some (.int .i64 (Lib.nDigits u:Int))) none).run Tryz.prog W = .ok (.slice (some ⟨w.heap.size,0,none⟩) (Lib.nDigits u) 24) W:=fun W=>by
   rw [run_sliceAt_array_h W 162 ⟨w.heap.size,0,none⟩ (by kernel_rfl) .i64 (Lib.nDigits u:Int) (by omega) (by rw [hal]; omega)]
   rw [hal]; go_simp
  have hH0:=fzero w 162 (Lib.nDigits u) (by omega)
  have hfm:=fbase w.heap.size 0 24 u (Array.replicate (Lib.nDigits u) 0) (w.alloc (.cells Lib.zeros24 162)) hH0 (by rw [Array.size_replicate]; exact Lib.lt_pow_nDigits u) hu64 (by rw [Array.size_replicate]; omega)
  rw [Array.size_replicate] at hfm
  have HH:=hide hH0
  clear hH0 hal
  go_enter Tryz.func119,Tryz.ntmps119
  go_wp2_with fail
  refine (fdigs u (by omega) hu64 _ (Lib.tabIs_alloc ht _)).mono ?_
  rintro e w' ⟨rfl,rfl⟩
  go_wp2_with fail
  refine hfm.mono ?_
  rintro e w' ⟨rfl,k,v',dk,rfl,hF⟩
  have hcv:(convert 86 9 (.slice (some ⟨w.heap.size,0,none⟩) (Lib.nDigits u) 24)).run Tryz.prog ((putRow (fun (b:UInt8)=>Value.int .u8 (b.toNat:Int)) (w.alloc (.cells Lib.zeros24 162)) w.heap.size 0 dk).drewN k) = .ok (.string ⟨(Lib.decDigits u).toArray⟩) ((putRow (fun (b:UInt8)=>Value.int .u8 (b.toNat:Int)) (w.alloc (.cells Lib.zeros24 162)) w.heap.size 0 dk).drewN k):=by
   have h:=run_convert_bytes_back (P:=Tryz.prog) ((putRow (fun (b:UInt8)=>Value.int .u8 (b.toNat:Int)) (w.alloc (.cells Lib.zeros24 162)) w.heap.size 0 dk).drewN k) 86 9 5 ⟨w.heap.size,0,none⟩ 24 (Lib.decDigits u) (by kernel_rfl) (by kernel_rfl) (by kernel_rfl) (fun j hj=>by
    rw [Lib.row_is_numeral hF j hj,Lib.add_plain,World.cell?_drewN]
    exact cell?_putRow (fun (b:UInt8)=>Value.int .u8 (b.toNat:Int)) _ w.heap.size 0 _ dk (unhide HH) (by rw [hF.size,Array.size_replicate]) j (by rw [hF.size]; rw [Lib.decDigits_length] at hj; exact hj))
   rw [Lib.decDigits_length] at h
   exact h
  go_wp2
  go_ret
  obtain ⟨os,eo⟩:=ffin w (.cells Lib.zeros24 162) dk k
  rw [eo]
  exact ⟨rfl,Lib.below_grow w.heap.size w (Nat.le_refl _) k os⟩
theorem fmtU (u:Nat) (hu64:u < 18446744073709551616) (w:World) (ht:Tpw w) :
  Calls Tryz.prog 100 #[.int .u64 (u:Int),.int .i64 10] w fun e w'=>e = .returned (.string ⟨(Lib.decDigits u).toArray⟩)∧Below w.heap.size w w':=by
 go_enter Tryz.func100,Tryz.ntmps100
 go_wp2_with fail
 refine (ifmtU u hu64 _ ht).mono ?_
 rintro e w' ⟨rfl,hb⟩
 go_wp2
 go_ret
 exact ⟨rfl,hb⟩
theorem decd_facts (u:Nat):(∀ b,b∈Lib.decDigits u→48≤b.toNat∧b.toNat≤57)∧Pl.dval ((Lib.decDigits u).map (fun b=>b.toNat - 48)) 0 = u:=by
 induction u using Nat.strongRecOn with
 | ind u ih=>
  have one:∀ v:Nat,v < 10→(UInt8.ofNat (48+v)).toNat = 48+v:=fun v hv=>by
   rw [UInt8.toNat_ofNat']; omega
  by_cases h:u < 10
  ·rw [Lib.decDigits,dif_pos h]
   refine ⟨fun b hb=>?_,?_⟩
   ·rw [List.mem_singleton] at hb
    rw [hb,one u h]; omega
   ·show Pl.dval [(UInt8.ofNat (48+u)).toNat - 48] 0 = u
    rw [one u h]
    simp [Pl.dval]
  ·rw [Lib.decDigits,dif_neg h]
   obtain ⟨h1,h2⟩:=ih (u / 10) (by omega)
   refine ⟨fun b hb=>?_,?_⟩
   ·rcases List.mem_append.1 hb with hb|hb
    ·exact h1 b hb
    ·rw [List.mem_singleton] at hb
     rw [hb,one _ (by omega)]; omega
   ·rw [List.map_append,dval_append,h2]
    show u / 10 * 10 ^ 1+Pl.dval [(UInt8.ofNat (48+u % 10)).toNat - 48] 0 = u
    rw [one _ (by omega)]
    simp [Pl.dval]; omega
end Go.Proofs.YtplihgoapiiigaaGreatDoor
