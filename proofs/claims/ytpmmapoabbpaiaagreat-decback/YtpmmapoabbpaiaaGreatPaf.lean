/- Of what DecBackRow stands on: Base Trim Check Nums DivLimb Clone Text PutGroup PutNum Sym Sym2 RefCheck RefTrim. -/
import Derived.Test.YtpmmapoabbpaiaaGreatProg
import Derived.WalkKit
import Derived.WalkSpells
import Derived.WalkLawsBesides
import Derived.Test.YtpmmapoabbpaiaaGreatPae
import Derived.Test.YtpmmapoabbpaiaaGreatPab
namespace Go.Proofs.YtpmmapoabbpaiaaGreat
open Go.RowKit
set_option maxHeartbeats 4000000
def Lim (w:World) (a:Option Addr) (xs:List Nat):Prop:=
 xs = []∨∃ b off,a = some ⟨b,off,none⟩∧∀ j,j < xs.length→w.cell? ⟨b,off+j,none⟩ = some (.int .u32 ((xs[j]?.getD 0:Nat):Int))
theorem Lim.parts {w:World} {a:Option Addr} {xs:List Nat} (h:Lim w a xs) :
  xs = []∨(0 < xs.length∧∃ b off,a = some ⟨b,off,none⟩∧b < w.heap.size∧∀ j,j < xs.length→w.cell? ⟨b,off+j,none⟩ = some (.int .u32 ((xs[j]?.getD 0:Nat):Int))):=by
 rcases h with h|⟨b,off,ha,hc⟩
 ·exact Or.inl h
 ·by_cases hx:xs = []
  ·exact Or.inl hx
  ·have hp:0 < xs.length:=List.length_pos_iff.2 hx
   exact Or.inr ⟨hp,b,off,ha,World.block_lt_of_cell? w ⟨b,off+0,none⟩ (hc 0 hp),hc⟩
theorem Lim.below {w w':World} {a:Option Addr} {xs:List Nat} (h:Lim w a xs) (hb:Below w.heap.size w w'):Lim w' a xs:=by
 rcases h.parts with h|⟨_,b,off,ha,hlt,hc⟩
 ·exact Or.inl h
 ·exact Or.inr ⟨b,off,ha,fun j hj=>(hb.cell (by exact hlt)).trans (hc j hj)⟩
theorem Lim.alloc {w:World} {a:Option Addr} {xs:List Nat} (h:Lim w a xs) (o:Obj):Lim (w.alloc o) a xs:=h.below ((Below.refl _ _).alloc (Nat.le_refl _) o)
def Own (w:World) (base:Nat) (v:Value) (xs:List Nat):Prop:=
 (v = .slice none 0 0∧xs = []) ∨
 ∃ g cap cur,v = .slice (some ⟨g,0,none⟩) xs.length cap∧base≤g∧w.heap[g]? = some (.cells cur 64 (0,0))∧xs.length≤cap∧cap≤cur.size∧cap≤9223372036854775807 ∧
  ∀ j,j < xs.length→cur[j]? = some (.int .u32 ((xs[j]?.getD 0:Nat):Int))
theorem Own.lim {w:World} {base:Nat} {v:Value} {xs:List Nat} (h:Own w base v xs) :
  ∃ a cap,v = .slice a xs.length cap∧xs.length≤cap∧cap≤9223372036854775807∧Lim w a xs:=by
 rcases h with ⟨rfl,rfl⟩|⟨g,cap,cur,rfl,hg,hh,h1,h2,h3,hc⟩
 ·exact ⟨none,0,rfl,Nat.le_refl _,by omega,Or.inl rfl⟩
 ·exact ⟨_,cap,rfl,h1,by omega,Or.inr ⟨g,0,rfl,fun j hj=>by rw [Nat.zero_add,cell_of_row w g j cur _ _ hh]; exact hc j hj⟩⟩
theorem Own.kept {w w':World} {base:Nat} {v:Value} {xs:List Nat} (h:Own w base v xs) (hb:Below w.heap.size w w'):Own w' base v xs:=by
 rcases h with h|⟨g,cap,cur,rfl,hg,hh,r⟩
 ·exact Or.inl h
 ·have hlt:g < w.heap.size:=by
   by_cases hlt:g < w.heap.size
   ·exact hlt
   ·rw [Array.getElem?_eq_none (by omega)] at hh; cases hh
  exact Or.inr ⟨g,cap,cur,rfl,hg,by rw [hb.block g hlt]; exact hh,r⟩
theorem Own.mono {w:World} {base base':Nat} {v:Value} {xs:List Nat} (h:Own w base v xs) (hb:base'≤base):Own w base' v xs:=by
 rcases h with h|⟨g,cap,cur,rfl,hg,r⟩
 ·exact Or.inl h
 ·exact Or.inr ⟨g,cap,cur,rfl,by omega,r⟩
theorem gr_drew {a b:World} (h:Below a.heap.size a b):Below a.heap.size a b.drew:=h.drew
theorem ret_int {k:IntKind} {a b:Int} (h:a = b):Ending.returned (.int k a) = .returned (.int k b):=by rw [h]
theorem ret_bool {a b:Bool} (h:a = b):Ending.returned (.bool a) = .returned (.bool b):=by rw [h]
def lc (zs:List Nat):Array Value:=(zs.map (fun z:Nat=>Value.int .u32 (z:Int))).toArray
def Row (w:World) (B:Nat) (zs:List Nat):Prop:=∃ tl:Array Value,w.heap[B]? = some (.cells (lc zs ++ tl) 64 (0,0))
theorem size_lc (zs:List Nat):(lc zs).size = zs.length:=by simp [lc]
theorem lc_at (zs:List Nat) (j:Nat) (h:j < zs.length):(lc zs)[j]? = some (.int .u32 ((zs[j]?.getD 0:Nat):Int)):=by simp [lc,h]
theorem lc_set (zs:List Nat) (j v:Nat):(lc zs).setIfInBounds j (.int .u32 (v:Int)) = lc (zs.set j v):=by
 simp [lc,List.setIfInBounds_toArray,List.map_set]
theorem lc_at' (zs:List Nat) (tl:Array Value) (j:Nat) (h:j < zs.length):(lc zs ++ tl)[j]? = some (.int .u32 ((zs[j]?.getD 0:Nat):Int)):=by
 rw [Array.getElem?_append_left (by rw [size_lc]; exact h),lc_at zs j h]
theorem Row.cell {w:World} {B:Nat} {zs:List Nat} (h:Row w B zs) (j:Nat) (hj:j < zs.length):w.cell? ⟨B,j,none⟩ = some (.int .u32 ((zs[j]?.getD 0:Nat):Int)):=by
 obtain ⟨tl,h⟩:=h
 rw [cell_of_row w B j _ _ _ h,lc_at' zs tl j hj]
theorem Row.frozen {w:World} {B:Nat} {zs:List Nat} (h:Row w B zs) (j:Nat):w.frozen? ⟨B,j,none⟩ = false:=by
 obtain ⟨tl,h⟩:=h
 exact frozen_of_row w B j _ _ h
theorem Row.set {w:World} {B:Nat} {zs:List Nat} (h:Row w B zs) (j v:Nat) (hj:j < zs.length):Row (w.setCell ⟨B,j,none⟩ (.int .u32 (v:Int))) B (zs.set j v):=by
 obtain ⟨tl,h⟩:=h
 refine ⟨tl,?_⟩
 rw [heap_setCell_same w B j _ _ _ h,Array.setIfInBounds_append_left (by rw [size_lc]; exact hj),lc_set]
theorem Row.lt {w:World} {B:Nat} {zs:List Nat} (h:Row w B zs):B < w.heap.size:=by
 obtain ⟨tl,h⟩:=h
 by_cases hlt:B < w.heap.size
 ·exact hlt
 ·rw [Array.getElem?_eq_none (by omega)] at h; cases h
structure Only (B:Nat) (w w':World):Prop where
 os:w'.os = w.os
 tape:w'.tape = w.tape
 output:w'.output = w.output
 size:w'.heap.size = w.heap.size
 block:∀ k,k≠B→w'.heap[k]? = w.heap[k]?
theorem Only.refl (B:Nat) (w:World):Only B w w:=⟨rfl,rfl,rfl,rfl,fun _ _=>rfl⟩
theorem Only.trans {B:Nat} {a b c:World} (h:Only B a b) (k:Only B b c):Only B a c:=
 ⟨k.os.trans h.os,k.tape.trans h.tape,k.output.trans h.output,k.size.trans h.size,fun i hi=>(k.block i hi).trans (h.block i hi)⟩
theorem Only.setCell {B:Nat} {a w:World} (h:Only B a w) (j:Nat) (u:Value):Only B a (w.setCell ⟨B,j,none⟩ u):=
 h.trans ⟨rfl,rfl,rfl,by simp [World.setCell],fun k hk=>heap_setCell_other w _ k u hk⟩
theorem Only.drew {B:Nat} {a w:World} (h:Only B a w):Only B a w.drew:=⟨h.os,h.tape,h.output,h.size,h.block⟩
theorem Only.cell {B:Nat} {w w':World} (h:Only B w w') {p:Addr} (hp:p.block≠B):w'.cell? p = w.cell? p:=World.cell?_of_block (w:=w) (h.block p.block hp)
theorem Only.frozen {B:Nat} {w w':World} (h:Only B w w') {p:Addr} (hp:p.block≠B):w'.frozen? p = w.frozen? p:=World.frozen?_of_block (w:=w) (h.block p.block hp)
theorem Only.below {B:Nat} {a w w':World} (h:Below a.heap.size a w) (k:Only B w w') (hB:a.heap.size≤B):Below a.heap.size a w':=
 h.trans ⟨k.os,k.tape,k.output,Nat.le_of_eq k.size.symm,fun i hi=>k.block i (by omega)⟩
theorem Only.lim {B:Nat} {w w':World} {a:Option Addr} {xs:List Nat} (k:Only B w w') (h:Lim w a xs) (hne:∀ b off,a = some ⟨b,off,none⟩→b≠B):Lim w' a xs:=by
 rcases h with h|⟨b,off,ha,hc⟩
 ·exact Or.inl h
 ·exact Or.inr ⟨b,off,ha,fun j hj=>(k.cell (hne b off ha)).trans (hc j hj)⟩
theorem Row.kept {w w':World} {B:Nat} {zs:List Nat} (h:Row w B zs) (hb:Below w.heap.size w w'):Row w' B zs:=by
 have hl:=h.lt
 obtain ⟨tl,h⟩:=h
 exact ⟨tl,by rw [hb.block B hl]; exact h⟩
theorem Row.own {w:World} {B base:Nat} {zs:List Nat} (h:Row w B zs) (hB:base≤B) (n cap:Nat) (hn:n≤cap) (hcap:cap≤zs.length) (hz:zs.length≤9223372036854775807):Own w base (.slice (some ⟨B,0,none⟩) n cap) (zs.take n):=by
 have e:(zs.take n).length = n:=by rw [List.length_take]; omega
 obtain ⟨tl,h⟩:=h
 refine Or.inr ⟨B,cap,lc zs ++ tl,by rw [e],hB,h,by omega,by rw [Array.size_append,size_lc]; omega,by omega,fun j hj=>?_⟩
 rw [e] at hj
 rw [lc_at' zs tl j (by omega),List.getElem?_take,if_pos hj]
theorem Row.prefix {w:World} {B:Nat} {zs:List Nat} (h:Row w B zs) (n:Nat):Row w B (zs.take n):=by
 obtain ⟨tl,h⟩:=h
 refine ⟨lc (zs.drop n) ++ tl,?_⟩
 rw [h,← Array.append_assoc]
 have e:lc (zs.take n) ++ lc (zs.drop n) = lc zs:=by
  simp only [lc,List.append_toArray,← List.map_append,List.take_append_drop]
 rw [e]
theorem mul_lo (x f:Nat):(0:Int)≤(x:Int) * (f:Int):=Int.mul_nonneg (Int.natCast_nonneg _) (Int.natCast_nonneg _)
theorem mul_hi {x f:Nat} (hx:x < 4294967296) (hf:f < 4294967296):(x:Int) * (f:Int)≤18446744065119617025:=by
 have:x * f≤4294967295 * 4294967295:=Nat.mul_le_mul (by omega) (by omega)
 rw [← Int.natCast_mul]; omega
theorem at_mid (pre out d post:List Nat) (k:Nat) (hk:out.length = k) (hd:k < d.length):(pre ++ (out ++ d.drop k) ++ post)[pre.length+k]?.getD 0 = d[k]?.getD 0:=by
 rw [List.append_assoc,List.getElem?_append_right (by omega),Nat.add_sub_cancel_left,List.getElem?_append_left (by simp; omega),List.getElem?_append_right (by omega),hk,Nat.sub_self,List.getElem?_drop]
 simp
theorem set_mid (pre out d post:List Nat) (k v:Nat) (hk:out.length = k) (hd:k < d.length):(pre ++ (out ++ d.drop k) ++ post).set (pre.length+k) v = pre ++ ((out ++ [v]) ++ d.drop (k+1)) ++ post:=by
 rw [Pl.drop_cons d k hd,List.append_assoc,List.set_append_right _ _ (by omega),Nat.add_sub_cancel_left,List.set_append_left _ _ (by simp; omega),List.set_append_right _ _ (by omega),hk,Nat.sub_self]
 simp
theorem Tryz.info_limb:(Tryz.prog.info? 64).map (fun i=>(i.zero,i.size,i.bytes)) = some (some (.int .u32 0),1,4):=by kernel_rfl
theorem Tryz.under_limbs:Tryz.prog.underlying 24 = some (.slice 64):=by kernel_rfl
theorem made_lc (n:Nat):madeCells #[.int .u32 0] n = lc (List.replicate n 0):=by
 apply Array.toList_inj.1
 rw [toList_madeCells_one]
 simp [lc]
theorem make_limbs (C:Int) (n:Nat) (hC:C = (n:Int)) (hn:n≤1073741824) (w:World) :
  (Instr.makeSlice 24 (.int .i64 C) (.int .i64 C)).run Tryz.prog w = .ok (.slice (some ⟨w.heap.size,0,none⟩) n n) (w.alloc (.cells (lc (List.replicate n 0)) 64)):=by
 obtain ⟨i,hi,hz,hs,hb⟩:=info_parts Tryz.info_limb
 have:=run_make (P:=Tryz.prog) w 24 64 i (.int .u32 0) Tryz.under_limbs hi hz .i64 .i64 C C (by omega) (Int.le_refl _) (by rw [hb]; omega) (by omega)
 rw [this,hC,hs]
 simp only [Int.toNat_natCast,Nat.mul_one,Value.cells,made_lc]
theorem Row.made (w:World) (zs:List Nat):Row (w.alloc (.cells (lc zs) 64)) w.heap.size zs:=⟨#[],by rw [Array.append_empty]; exact heap_alloc_new w _⟩
theorem Row.only {w w':World} {B C:Nat} {zs:List Nat} (h:Row w B zs) (k:Only C w w') (hne:B≠C):Row w' B zs:=by
 obtain ⟨tl,h⟩:=h
 exact ⟨tl,by rw [k.block B hne]; exact h⟩
theorem Own.set {w:World} {base:Nat} {v:Value} {xs:List Nat} (h:Own w base v xs) {p:Addr} (hp:p.block < base) (u:Value):Own (w.setCell p u) base v xs:=by
 rcases h with h|⟨g,cap,cur,rfl,hg,hh,r⟩
 ·exact Or.inl h
 ·exact Or.inr ⟨g,cap,cur,rfl,hg,by rw [heap_setCell_other w p g u (by omega)]; exact hh,r⟩
theorem or_limb (r x:Nat) (hr:r < 4294967296) (hx:x < 4294967296):Go.bits .or .u64 ((r:Int) * 4294967296) (x:Int) = (r:Int) * 4294967296+(x:Int):=by
 have h:=bits_or_u64_nat (r * 4294967296) x (by omega) (by omega)
 have e:r * 4294967296 ||| x = r * 4294967296+x:=by
  have:=Nat.two_pow_add_eq_or_of_lt (i:=32) (b:=x) (by omega) r
  rw [Nat.mul_comm r 4294967296]; exact this.symm
 rw [e] at h
 rw [show ((r:Int) * 4294967296) = ((r * 4294967296:Nat):Int) by omega,h]
 omega
theorem and_one_i64 (e:Nat) (h:e < 9223372036854775808):Go.bits .and .i64 (e:Int) 1 = ((e % 2:Nat):Int):=by
 have h1:(BitVec.ofInt 64 (e:Int)).toNat = e:=by
  rw [BitVec.ofInt_natCast,BitVec.toNat_ofNat]; exact Nat.mod_eq_of_lt (by omega)
 show IntKind.i64.wrap ((BitVec.ofInt 64 (e:Int) &&& BitVec.ofInt 64 1).toNat:Int) = _
 rw [BitVec.toNat_and,h1,show (BitVec.ofInt 64 1).toNat = 1 from rfl,Nat.and_one_is_mod,IntKind.wrap_i64]
 omega
theorem trim_any (b off cap:Nat) (xs:List Nat) (w:World) (hlen:xs.length≤cap) (hcap:cap≤9223372036854775807)
  (hc:∀ j,j < xs.length→w.cell? ⟨b,off+j,none⟩ = some (.int .u32 ((xs[j]?.getD 0:Nat):Int))) :
  Calls Tryz.prog 75 #[.slice (some ⟨b,off,none⟩) xs.length cap] w fun e w'=>w = w'∧∃ n,n≤xs.length∧(∀ j,n≤j→j < xs.length→xs[j]?.getD 0 = 0)∧(n = 0∨xs[n - 1]?.getD 0≠0)∧e = .returned (.slice (some ⟨b,off,none⟩) n n):=by
 go_enter Tryz.func75,Tryz.ntmps75
 go_wp2
 go_loop [3] (fun t=>∃ k:Nat,k≤xs.length∧t = .int .i64 k∧∀ j,k≤j→j < xs.length→xs[j]?.getD 0 = 0) (fun t=>(intOf t).toNat)
 case atStart=>exact ⟨xs.length,Nat.le_refl _,rfl,fun j h1 h2=>by omega⟩
 case round=>
  obtain ⟨k,hk,rfl,hz⟩:=hrel
  have HZ:Hid (∀ j,k≤j→j < xs.length→xs[j]?.getD 0 = 0):=hz
  clear hz
  have hcell:0 < k→w.cell? ⟨b,off+(k - 1),none⟩ = some (.int .u32 ((xs[k - 1]?.getD 0:Nat):Int)):=fun _=>hc _ (by omega)
  go_wp2
  ·have hlt:0 < k:=by assumption
   have hb:(((xs[k - 1]?.getD 0:Nat):Int) == 0) = true:=by assumption
   go_round
   case rel=>
    refine ⟨k - 1,by omega,by go_num,fun j h1 h2=>?_⟩
    by_cases e:j = k - 1
    ·subst e; simpa using hb
    ·exact HZ.out j (by omega) h2
   case measure=>simp [intOf]; omega
  ·have hb:(((xs[k - 1]?.getD 0:Nat):Int) == 0) = false:=by assumption
   go_ret
   exact ⟨rfl,k,hk,HZ.out,Or.inr (by simpa using hb),rfl⟩
  ·have hz:k = 0:=by omega
   go_ret
   exact ⟨rfl,k,hk,HZ.out,Or.inl hz,rfl⟩
theorem trim_at (b off n cap:Nat) (xs:List Nat) (w:World) (hn:xs.length = n) (hlen:n≤cap) (hcap:cap≤9223372036854775807)
  (hc:∀ j,j < xs.length→w.cell? ⟨b,off+j,none⟩ = some (.int .u32 ((xs[j]?.getD 0:Nat):Int))) :
  Calls Tryz.prog 75 #[.slice (some ⟨b,off,none⟩) n cap] w fun e w'=>w = w'∧∃ n,n≤xs.length∧(∀ j,n≤j→j < xs.length→xs[j]?.getD 0 = 0)∧(n = 0∨xs[n - 1]?.getD 0≠0)∧e = .returned (.slice (some ⟨b,off,none⟩) n n):=by
 subst hn
 exact trim_any b off cap xs w hlen hcap hc
theorem trim_empty (a:Option Addr) (cap:Nat) (w:World) :
  Calls Tryz.prog 75 #[.slice a 0 cap] w fun e w'=>w = w'∧e = .returned (.slice a 0 0):=by
 go_enter Tryz.func75,Tryz.ntmps75
 go_wp2
 refine wp_loop_rounds 1 ?_
 rw [rounds_succ]
 go_wp2
 go_ret
 exact ⟨rfl,rfl⟩
def chk (xs:List Nat):Int:=if 16384 < xs.length then 4 else if 0 < xs.length∧xs[xs.length - 1]?.getD 0 = 0 then 10 else 0
theorem chk_ok {xs:List Nat} (h:xs.length≤16384) (hn:Pl.Norm xs):chk xs = 0:=by
 unfold chk
 rw [if_neg (by omega),if_neg]
 rintro ⟨h1,h2⟩
 exact Pl.norm_last hn h1 h2
theorem check_any (a:Option Addr) (cap:Nat) (xs:List Nat) (w:World) (hbig:xs.length≤9223372036854775807) (hl:Lim w a xs) :
  Calls Tryz.prog 57 #[.agg #[.slice a xs.length cap]] w fun e w'=>e = .returned (.int .i64 (chk xs))∧Below w.heap.size w w':=by
 rcases hl.parts with rfl|⟨hp,b,off,rfl,hlt,hc⟩
 ·go_enter Tryz.func57,Tryz.ntmps57
  go_wp2
  go_ret
  exact ⟨rfl,(Below.refl _ _).alloc (Nat.le_refl _) _⟩
 ·have hcell:=hc (xs.length - 1) (by omega)
  clear hc hl
  go_enter Tryz.func57,Tryz.ntmps57
  go_wp2
  all_goals go_ret
  ·have h1:(16384:Int) < xs.length:=by assumption
   exact ⟨ret_int (a:=4) (by rw [chk,if_pos (by omega)]),(Below.refl _ _).alloc (Nat.le_refl _) _⟩
  ·have h1:(xs.length:Int)≤16384:=by assumption
   have h2:(((xs[xs.length - 1]?.getD 0:Nat):Int) == 0) = true:=by assumption
   exact ⟨ret_int (a:=10) (by rw [chk,if_neg (by omega),if_pos ⟨hp,by simpa using h2⟩]),(Below.refl _ _).alloc (Nat.le_refl _) _⟩
  ·have h1:(xs.length:Int)≤16384:=by assumption
   have h2:(((xs[xs.length - 1]?.getD 0:Nat):Int) == 0) = false:=by assumption
   exact ⟨ret_int (a:=0) (by rw [chk,if_neg (by omega),if_neg (fun h=>by simp [h.2] at h2)]),(Below.refl _ _).alloc (Nat.le_refl _) _⟩
def chk2 (xs ys:List Nat):Int:=if chk xs = 0 then chk ys else chk xs
theorem chk2_ok {xs ys:List Nat} (h:chk xs = 0) (k:chk ys = 0):chk2 xs ys = 0:=by rw [chk2,if_pos h,k]
theorem checkBoth_any (a a':Option Addr) (cap cap':Nat) (xs ys:List Nat) (w:World) (hx:xs.length≤9223372036854775807) (hy:ys.length≤9223372036854775807) (hl:Lim w a xs) (hl':Lim w a' ys) :
  Calls Tryz.prog 63 #[.agg #[.slice a xs.length cap],.agg #[.slice a' ys.length cap']] w fun e w'=>e = .returned (.int .i64 (chk2 xs ys))∧Below w.heap.size w w':=by
 by_cases h0:chk xs = 0
 ·have hb0:(chk xs != 0) = false:=by simp [h0]
  have H0:Hid (chk xs = 0):=h0
  clear h0
  go_enter Tryz.func63,Tryz.ntmps63
  go_wp2_with fail
  refine (check_any a cap xs _ hx ((hl.alloc _).alloc _)).mono ?_
  rintro e w1 ⟨rfl,hb⟩
  obtain ⟨hc1,hf1⟩:=bcell hb
  have hl1:=((hl'.alloc _).alloc _).below hb
  go_wp2_with fail
  refine (check_any a' cap' ys _ hy hl1).mono ?_
  rintro e w2 ⟨rfl,hb2⟩
  go_wp2
  go_ret
  exact ⟨ret_int (by rw [chk2,if_pos H0.out]),gr_trans (gr_trans (gr_alloc _ _) (gr_alloc _ _)) (gr_trans hb hb2)⟩
 ·have hb0:(chk xs != 0) = true:=by simp [h0]
  have H0:Hid (¬ chk xs = 0):=h0
  clear h0
  go_enter Tryz.func63,Tryz.ntmps63
  go_wp2_with fail
  refine (check_any a cap xs _ hx ((hl.alloc _).alloc _)).mono ?_
  rintro e w1 ⟨rfl,hb⟩
  obtain ⟨hc1,hf1⟩:=bcell hb
  go_wp2
  go_ret
  exact ⟨ret_int (by rw [chk2,if_neg H0.out]),gr_trans (gr_trans (gr_alloc _ _) (gr_alloc _ _)) hb⟩
def Num (w:World) (a:Option Addr) (n m:Nat):Prop:=∃ xs,xs.length = n∧Lim w a xs∧Pl.Wf xs∧Pl.Norm xs∧Pl.val xs = m∧n≤16384
def Mine (w:World) (base:Nat) (a:Option Addr) (n cap m:Nat):Prop:=∃ xs,xs.length = n∧Own w base (.slice a n cap) xs∧Pl.Wf xs∧Pl.Norm xs∧Pl.val xs = m∧n≤16384
theorem Mine.num {w:World} {base:Nat} {a:Option Addr} {n cap m:Nat} (h:Mine w base a n cap m):Num w a n m:=by
 obtain ⟨xs,hn,ho,hw,hN,hv,hl⟩:=h
 obtain ⟨a',cap',e,_,_,hlim⟩:=ho.lim
 injection e with e1 e2 e3
 exact ⟨xs,hn,by rw [e1]; exact hlim,hw,hN,hv,hl⟩
theorem Mine.kept {w w':World} {base:Nat} {a:Option Addr} {n cap m:Nat} (h:Mine w base a n cap m) (hb:Below w.heap.size w w'):Mine w' base a n cap m:=by
 obtain ⟨xs,hn,ho,r⟩:=h
 exact ⟨xs,hn,ho.kept hb,r⟩
theorem Mine.mono {w:World} {base base':Nat} {a:Option Addr} {n cap m:Nat} (h:Mine w base a n cap m) (hb:base'≤base):Mine w base' a n cap m:=by
 obtain ⟨xs,hn,ho,r⟩:=h
 exact ⟨xs,hn,ho.mono hb,r⟩
theorem Mine.set {w:World} {base:Nat} {a:Option Addr} {n cap m:Nat} (h:Mine w base a n cap m) {p:Addr} (hp:p.block < base) (u:Value):Mine (w.setCell p u) base a n cap m:=by
 obtain ⟨xs,hn,ho,r⟩:=h
 exact ⟨xs,hn,ho.set hp u,r⟩
theorem Num.kept {w w':World} {a:Option Addr} {n m:Nat} (h:Num w a n m) (hb:Below w.heap.size w w'):Num w' a n m:=by
 obtain ⟨xs,hn,hl,r⟩:=h
 exact ⟨xs,hn,hl.below hb,r⟩
theorem Num.len {w:World} {a:Option Addr} {n m:Nat} (h:Num w a n m):n≤16384:=by
 obtain ⟨xs,_,_,_,_,_,hl⟩:=h; exact hl
theorem Num.zero {w:World} {a:Option Addr} {n m:Nat} (h:Num w a n m):n = 0↔m = 0:=by
 obtain ⟨xs,hn,_,hw,hN,hv,_⟩:=h
 constructor
 ·intro e; have:xs = []:=List.length_eq_zero_iff.1 (by omega); rw [← hv,this]; rfl
 ·intro e; have:=Pl.norm_zero hN (by omega); rw [← hn,this]; rfl
theorem Num.lt {w:World} {a:Option Addr} {n m:Nat} (h:Num w a n m):m < 4294967296 ^ Pl.top:=by
 obtain ⟨xs,hn,_,hw,hN,hv,hl⟩:=h
 rw [← hv]; exact (Pl.val_le_len hw hN Pl.top).1 (by rw [Pl.top_eq]; omega)
theorem Num.same {w w':World} {a a':Option Addr} {n n' m:Nat} (h:Num w a n m) (k:Num w' a' n' m):n = n':=by
 obtain ⟨xs,hn,_,hw,hN,hv,_⟩:=h
 obtain ⟨ys,hn',_,hw',hN',hv',_⟩:=k
 have:=Pl.val_inj hw hw' hN hN' (by omega)
 rw [← hn,← hn',this]
def Box (w:World) (p:Nat) (v:Value):Prop:=w.heap[p]? = some (.cells #[v] 26 (0,0))
theorem Box.cell {w:World} {p:Nat} {v:Value} (h:Box w p v):w.cell? ⟨p,0,none⟩ = some v:=by rw [cell_of_row w p 0 _ _ _ h]; rfl
theorem Box.frozen {w:World} {p:Nat} {v:Value} (h:Box w p v):w.frozen? ⟨p,0,none⟩ = false:=frozen_of_row w p 0 _ _ h
theorem Box.lt {w:World} {p:Nat} {v:Value} (h:Box w p v):p < w.heap.size:=by
 by_cases hlt:p < w.heap.size
 ·exact hlt
 ·unfold Box at h; rw [Array.getElem?_eq_none (by omega)] at h; cases h
theorem Box.made (w:World) (v:Value):Box (w.alloc (.cells #[v] 26)) w.heap.size v:=heap_alloc_new w _
theorem Box.kept {w w':World} {p:Nat} {v:Value} (h:Box w p v) (hb:Below w.heap.size w w'):Box w' p v:=by
 unfold Box; rw [hb.block p h.lt]; exact h
theorem Box.alloc {w:World} {p:Nat} {v:Value} (h:Box w p v) (o:Obj):Box (w.alloc o) p v:=h.kept (gr_alloc _ _)
theorem Box.drewN {w:World} {p:Nat} {v:Value} (h:Box w p v) (n:Nat):Box (w.drewN n) p v:=h
theorem Box.set {w:World} {p:Nat} {v:Value} (h:Box w p v) (u:Value):Box (w.setCell ⟨p,0,none⟩ u) p u:=by
 unfold Box; rw [heap_setCell_same w p 0 _ _ _ h]; rfl
theorem Box.other {w:World} {p:Nat} {v:Value} (h:Box w p v) {a:Addr} (hne:p≠a.block) (u:Value):Box (w.setCell a u) p v:=by
 unfold Box; rw [heap_setCell_other w a p u hne]; exact h
theorem Own.setBox {w:World} {base:Nat} {v:Value} {xs:List Nat} (h:Own w base v xs) {p:Nat} {x:Value} (hb:Box w p x) (u:Value):Own (w.setCell ⟨p,0,none⟩ u) base v xs:=by
 rcases h with h|⟨g,cap,cur,rfl,hg,hh,r⟩
 ·exact Or.inl h
 ·have hne:g≠p:=by
   rintro rfl
   unfold Box at hb
   rw [hh] at hb
   simp at hb
  exact Or.inr ⟨g,cap,cur,rfl,hg,by rw [heap_setCell_other w _ g u hne]; exact hh,r⟩
theorem Mine.setBox {w:World} {base:Nat} {a:Option Addr} {n cap m:Nat} (h:Mine w base a n cap m) {p:Nat} {x:Value} (hb:Box w p x) (u:Value):Mine (w.setCell ⟨p,0,none⟩ u) base a n cap m:=by
 obtain ⟨xs,hn,ho,r⟩:=h
 exact ⟨xs,hn,ho.setBox hb u,r⟩
theorem Lim.setBox {w:World} {a:Option Addr} {xs:List Nat} (h:Lim w a xs) {p:Nat} {a0:Option Addr} {n0 c0:Nat} (hb:Box w p (.slice a0 n0 c0)) (u:Value):Lim (w.setCell ⟨p,0,none⟩ u) a xs:=by
 rcases h.parts with h|⟨hp,b,off,ha,hlt,hc⟩
 ·exact Or.inl h
 ·have hne:b≠p:=by
   rintro rfl
   have h0:=hc 0 hp
   rw [cell_of_row w b (off+0) _ _ _ hb] at h0
   by_cases hz:off+0 = 0
   ·rw [hz] at h0; simp at h0
   ·rw [Array.getElem?_eq_none (by simp; omega)] at h0; cases h0
  refine Or.inr ⟨b,off,ha,fun j hj=>?_⟩
  rw [World.cell?_of_block (w:=w) (heap_setCell_other w _ b u hne)]
  exact hc j hj
theorem Num.setBox {w:World} {a:Option Addr} {n m:Nat} (h:Num w a n m) {p:Nat} {a0:Option Addr} {n0 c0:Nat} (hb:Box w p (.slice a0 n0 c0)) (u:Value):Num (w.setCell ⟨p,0,none⟩ u) a n m:=by
 obtain ⟨xs,hn,hl,r⟩:=h
 exact ⟨xs,hn,hl.setBox hb u,r⟩
theorem Num.alloc {w:World} {a:Option Addr} {n m:Nat} (h:Num w a n m) (o:Obj):Num (w.alloc o) a n m:=h.kept (gr_alloc _ _)
theorem Mine.alloc {w:World} {base:Nat} {a:Option Addr} {n cap m:Nat} (h:Mine w base a n cap m) (o:Obj):Mine (w.alloc o) base a n cap m:=h.kept (gr_alloc _ _)
structure Over (m:Nat):Prop where
 le:4294967296 ^ Pl.top≤m
def Ans (w:World) (base:Nat) (e:Ending) (m:Nat):Prop:=
 (∃ a n cap,e = .returned (.tuple #[.agg #[.slice a n cap],.int .i64 0])∧Mine w base a n cap m) ∨
 (e = .returned (.tuple #[.agg #[.slice none 0 0],.int .i64 4])∧Over m)
theorem Ans.kept {w w':World} {base base':Nat} {e:Ending} {m:Nat} (h:Ans w base e m) (hb:Below w.heap.size w w') (hB:base'≤base):Ans w' base' e m:=by
 rcases h with ⟨a,n,cap,rfl,h⟩|h
 ·exact Or.inl ⟨a,n,cap,rfl,(h.kept hb).mono hB⟩
 ·exact Or.inr h
theorem trim_row {w:World} {B base n:Nat} {zs:List Nat} (h:Row w B zs) (hB:base≤B) (hz:zs.length≤9223372036854775807) (wz:Pl.Wf zs) (hn:n≤zs.length)
  (h0:∀ j,n≤j→j < zs.length→zs[j]?.getD 0 = 0) (h1:n = 0∨zs[n - 1]?.getD 0≠0) :
  (zs.take n).length = n∧Own w base (.slice (some ⟨B,0,none⟩) n n) (zs.take n)∧Pl.Wf (zs.take n)∧Pl.Norm (zs.take n)∧Pl.val (zs.take n) = Pl.val zs:=by
 have e:(zs.take n).length = n:=by rw [List.length_take]; omega
 refine ⟨e,h.own hB n n (Nat.le_refl _) hn hz,Pl.wf_take wz n,Pl.norm_of ?_,Pl.take_of_zeros zs n hn h0⟩
 rw [e]
 rcases h1 with h1|h1
 ·exact Or.inl h1
 ·by_cases hn0:n = 0
  ·exact Or.inl hn0
  ·right; rw [List.getElem?_take,if_pos (by omega)]; exact h1
theorem limited_any (B base cap:Nat) (zs:List Nat) (w:World) (hrow:Row w B zs) (hB:base≤B) (hcap:zs.length≤cap) (hcap2:cap≤40000) (wz:Pl.Wf zs) :
  Calls Tryz.prog 64 #[.slice (some ⟨B,0,none⟩) zs.length cap] w fun e w'=>Ans w' base e (Pl.val zs)∧Below w.heap.size w w':=by
 go_enter Tryz.func64,Tryz.ntmps64
 go_wp2_with fail
 have hr1:=hrow.kept (gr_alloc w (.cells #[.slice none 0 0] 26))
 refine (trim_any B 0 cap zs _ hcap (by omega) (fun j hj=>by rw [Nat.zero_add]; exact hr1.cell j hj)).mono ?_
 rintro e w1 ⟨rfl,n,hn,h0,h1,rfl⟩
 have HT:=hide (trim_row hrow hB (by omega) wz hn h0 h1)
 clear h0 h1
 by_cases hbig:n≤16384
 ·go_wp2
  obtain ⟨t1,t2,t3,t4,t5⟩:=unhide HT
  exact bodyPost_ret (v:=.tuple #[.agg #[.slice (some ⟨B,0,none⟩) n n],.int .i64 0]) (by simp [results,Tryz.results64,go_sem]) rfl ⟨Or.inl ⟨_,n,n,rfl,zs.take n,t1,t2.kept (gr_alloc _ _),t3,t4,t5,hbig⟩,gr_alloc _ _⟩
 ·go_wp2
  obtain ⟨t1,t2,t3,t4,t5⟩:=unhide HT
  have hm:Over (Pl.val zs):=by
   constructor
   have h:=Pl.val_le_len t3 t4 Pl.top
   rw [t1,t5,Pl.top_eq] at h
   rw [Pl.top_eq]
   omega
  exact bodyPost_ret (v:=.tuple #[.agg #[.slice none 0 0],.int .i64 4]) (by simp [results,Tryz.results64,go_sem]) rfl ⟨Or.inr ⟨rfl,hm⟩,gr_alloc _ _⟩
theorem limited_at (B base n cap:Nat) (zs:List Nat) (w:World) (hn:zs.length = n) (hrow:Row w B zs) (hB:base≤B) (hcap:n≤cap) (hcap2:cap≤40000) (wz:Pl.Wf zs) :
  Calls Tryz.prog 64 #[.slice (some ⟨B,0,none⟩) n cap] w fun e w'=>Ans w' base e (Pl.val zs)∧Below w.heap.size w w':=by
 subst hn
 exact limited_any B base cap zs w hrow hB hcap hcap2 wz
theorem of_any (u:Nat) (w:World) (hu:u < 18446744073709551616) :
  Calls Tryz.prog 31 #[.int .u64 (u:Int)] w fun e w'=>(∃ a n cap,e = .returned (.agg #[.slice a n cap])∧Mine w' w.heap.size a n cap u)∧Below w.heap.size w w':=by
 have hrow:∀ o:Obj,Row ((w.alloc o).alloc (.cells #[.int .u32 ((u:Int) % 4294967296),.int .u32 ((u:Int) / 4294967296)] 64)) (w.heap.size+1) [u % 4294967296,u / 4294967296]:=by
  intro o
  refine ⟨#[],?_⟩
  rw [heap_alloc2_new]
  simp [lc]
 have HR:=hide hrow
 clear hrow
 have hwf:Pl.Wf [u % 4294967296,u / 4294967296]:=Pl.wf_cons (by omega) (Pl.wf_one (by omega))
 have hval:Pl.val [u % 4294967296,u / 4294967296] = u:=by simp [Pl.val]; omega
 have HV:=hide hval
 clear hval
 go_enter Tryz.func31,Tryz.ntmps31
 go_wp2_with fail
 refine (trim_at (w.heap.size+1) 0 2 2 [u % 4294967296,u / 4294967296] _ rfl (by omega) (by omega) (fun j hj=>by rw [Nat.zero_add]; exact (unhide HR _).cell j hj)).mono ?_
 rintro e w1 ⟨rfl,n,hn,h0,h1,rfl⟩
 have hn2:n≤2:=hn
 have HT:=hide (fun o:Obj=>trim_row (unhide HR o) (show w.heap.size≤w.heap.size+1 by omega) (by simp) hwf hn h0 h1)
 clear h0 h1 hn
 go_wp2
 obtain ⟨t1,t2,t3,t4,t5⟩:=unhide HT (.cells #[.slice (some ⟨w.heap.size+1,0,none⟩) n n] 26)
 refine bodyPost_ret (v:=.agg #[.slice (some ⟨w.heap.size+1,0,none⟩) n n]) (by simp [results,Tryz.results31,go_sem]) rfl ⟨⟨_,n,n,rfl,_,t1,t2,t3,t4,t5.trans (unhide HV),by omega⟩,gr_trans (gr_alloc _ _) (gr_alloc _ _)⟩
theorem div_step {V Q r x d t:Nat} (h:V = Q * d+r) (ht:t = r * 4294967296+x):x+4294967296 * V = (t / d+4294967296 * Q) * d+t % d:=by
 have e:=Nat.div_add_mod t d
 have e2:4294967296 * V = 4294967296 * (Q * d)+r * 4294967296:=by rw [h,Nat.mul_add,Nat.mul_comm r]
 rw [Nat.add_mul,Nat.mul_assoc,e2,Nat.mul_comm (t / d) d]
 omega
theorem div_digit {r x d t:Nat} (hr:r < d) (hx:x < 4294967296) (ht:t = r * 4294967296+x):t / d < 4294967296:=by
 apply Nat.div_lt_of_lt_mul
 have:(r+1) * 4294967296≤d * 4294967296:=Nat.mul_le_mul_right _ hr
 omega
theorem set_rep (j v:Nat) (qs post:List Nat):(List.replicate (j+1) 0 ++ qs ++ post).set j v = List.replicate j 0 ++ (v :: qs) ++ post:=by
 rw [List.append_assoc,List.set_append_left _ _ (by simp),List.replicate_succ',List.set_append_right _ _ (by simp)]
 simp
theorem divideByLimb_any (b off cap d n:Nat) (xs:List Nat) (w:World) (hn:Hid (xs.length = n)) (hlen:n≤16384) (hd:0 < d) (hd2:d < 4294967296) (hx:Pl.Wf xs) (hlt:b < w.heap.size)
  (hc:∀ j,j < n→w.cell? ⟨b,off+j,none⟩ = some (.int .u32 ((xs[j]?.getD 0:Nat):Int))) :
  Calls Tryz.prog 129 #[.slice (some ⟨b,off,none⟩) n cap,.int .u32 (d:Int)] w
   fun e w'=>∃ (k:Nat) (qs:List Nat),e = .returned (.tuple #[.slice (some ⟨w.heap.size,0,none⟩) k k,.int .u32 ((Pl.val xs % d:Nat):Int)])∧k≤n∧qs.length = k∧Own w' w.heap.size (.slice (some ⟨w.heap.size,0,none⟩) k k) qs∧Pl.Wf qs∧Pl.Norm qs∧Pl.val qs = Pl.val xs / d∧Below w.heap.size w w':=by
 have hmk:=make_limbs (n:Int) n rfl (by omega)
 go_enter Tryz.func129,Tryz.ntmps129
 go_wp2
 clear hmk
 go_loopw [6,7] (fun r i wr=>∃ (k rr:Nat) (qs:List Nat),k≤n∧i = .int .i64 ((k:Int) - 1)∧r = .int .u64 (rr:Int)∧rr < d∧qs.length = n - k∧Pl.Wf qs∧Pl.val (xs.drop k) = Pl.val qs * d+rr ∧
   Row wr w.heap.size (List.replicate k 0 ++ qs)∧Below w.heap.size w wr) (fun _ i _=>(intOf i+1).toNat)
 case atStart=>
  refine ⟨n,0,[],Nat.le_refl _,rfl,rfl,hd,by simp,Pl.wf_nil,?_,?_,gr_alloc _ _⟩
  ·rw [List.drop_eq_nil_of_le (by rw [unhide hn]; omega)]; simp [Pl.val]
  ·rw [List.append_nil]; exact Row.made _ _
 case round=>
  obtain ⟨k,rr,qs,hk,rfl,rfl,hrd,hql,hqw,hv,hrow,hbel⟩:=hrel
  by_cases hk0:k = 0
  ·subst hk0
   have hv2:=hv
   rw [List.drop_zero] at hv2
   have hr2:Row wr w.heap.size qs:=by simpa using hrow
   have hm:Pl.val xs % d = rr:=by rw [hv2,Nat.mul_comm,Nat.mul_add_mod]; exact Nat.mod_eq_of_lt hrd
   have hq:Pl.val xs / d = Pl.val qs:=by rw [hv2,Nat.mul_comm,Nat.mul_add_div hd,Nat.div_eq_of_lt hrd,Nat.add_zero]
   have HM:=hide hm
   have HQ:=hide hq
   clear hm hq hv hv2 hrow
   go_wp2_with fail
   refine (trim_at w.heap.size 0 n n qs wr (by omega) (Nat.le_refl _) (by omega) (fun j hj=>by rw [Nat.zero_add]; exact hr2.cell j hj)).mono ?_
   rintro e w1 ⟨rfl,l,hl,h0,h1,rfl⟩
   have HT:=hide (trim_row hr2 (Nat.le_refl _) (by omega) hqw hl h0 h1)
   clear h0 h1
   go_wp2
   go_ret2
   obtain ⟨t1,t2,t3,t4,t5⟩:=unhide HT
   refine ⟨l,qs.take l,?_,by omega,t1,t2,t3,t4,by rw [t5,unhide HQ],hbel⟩
   rw [unhide HM]
   rfl
  ·obtain ⟨j,rfl⟩:∃ j,k = j+1:=⟨k - 1,by omega⟩
   obtain ⟨x,hxx⟩:∃ x,x = xs[j]?.getD 0:=⟨_,rfl⟩
   obtain ⟨t,ht⟩:∃ t,t = rr * 4294967296+x:=⟨_,rfl⟩
   have hx1:x < 4294967296:=by rw [hxx]; exact Pl.wf_at hx j
   have hcx:wr.cell? ⟨b,off+j,none⟩ = some (.int .u32 (x:Int)):=by rw [hxx]; exact (hbel.cell (by exact hlt)).trans (hc j (by omega))
   have hor:Go.bits BinOp.or IntKind.u64 ((rr:Int) * 4294967296) (x:Int) = (t:Int):=by rw [or_limb rr x (by omega) hx1,ht]; omega
   have hcq:=hrow.cell j (by simp; omega)
   have hfq:=hrow.frozen j
   have hq1:t / d < 4294967296:=div_digit hrd hx1 ht
   have hqe:(t:Int) / (d:Int) = ((t / d:Nat):Int):=(Int.natCast_ediv t d).symm
   have hme:(t:Int) % (d:Int) = ((t % d:Nat):Int):=(Int.natCast_emod t d).symm
   have hq1i:(t:Int) / (d:Int) < 4294967296:=by rw [hqe]; omega
   have hq0i:(0:Int)≤(t:Int) / (d:Int):=by rw [hqe]; exact Int.natCast_nonneg _
   have HQE:=hide hqe
   have HME:=hide hme
   have hm1:t % d < d:=Nat.mod_lt _ hd
   have hnl:=unhide hn
   have HV:Hid (Pl.val (xs.drop j) = (t / d+4294967296 * Pl.val qs) * d+t % d):=by
    rw [Pl.drop_cons xs j (by omega),← hxx]; exact div_step hv ht
   have HR:=hide (hrow.set j (t / d) (by simp; omega))
   clear hxx ht hv hrow hnl hc hqe hme
   go_wp2
   go_roundw
   case rel=>
    rw [unhide HQE,unhide HME]
    refine ⟨j,t % d,t / d :: qs,by omega,rfl,rfl,hm1,by simp; omega,Pl.wf_cons hq1 hqw,unhide HV,?_,hbel.setCell (Nat.le_refl _) _⟩
    have h:=unhide HR
    have e:=set_rep j (t / d) qs []
    simp only [List.append_nil] at e
    rwa [e] at h
   case measure=>simp [intOf]
theorem cutGroup_any (B cap n:Nat) (xs post:List Nat) (w:World) (hn:Hid (xs.length = n)) (hlen:n≤16384) (hx:Pl.Wf xs) (hrow:Row w B (xs ++ post)) :
  Calls Tryz.prog 109 #[.slice (some ⟨B,0,none⟩) n cap] w
   fun e w'=>∃ qs:List Nat,e = .returned (.int .u32 ((Pl.val xs % 1000000000:Nat):Int))∧qs.length = n∧Pl.Wf qs∧Pl.val qs = Pl.val xs / 1000000000∧Row w' B (qs ++ post)∧Only B w w':=by
 go_enter Tryz.func109,Tryz.ntmps109
 go_wp2
 go_loopw [3,4] (fun r i wr=>∃ (k rr:Nat) (qs:List Nat),k≤n∧i = .int .i64 ((k:Int) - 1)∧r = .int .u64 (rr:Int)∧rr < 1000000000∧qs.length = n - k∧Pl.Wf qs∧Pl.val (xs.drop k) = Pl.val qs * 1000000000+rr ∧
   Row wr B (xs.take k ++ qs ++ post)∧Only B w wr) (fun _ i _=>(intOf i+1).toNat)
 case atStart=>
  refine ⟨n,0,[],Nat.le_refl _,rfl,rfl,by omega,by simp,Pl.wf_nil,?_,?_,Only.refl _ _⟩
  ·rw [List.drop_eq_nil_of_le (by rw [unhide hn]; omega)]; simp [Pl.val]
  ·rw [List.take_of_length_le (by rw [unhide hn]; omega),List.append_nil]; exact hrow
 case round=>
  obtain ⟨k,rr,qs,hk,rfl,rfl,hrd,hql,hqw,hv,hrow2,honly⟩:=hrel
  by_cases hk0:k = 0
  ·subst hk0
   have hv2:=hv
   rw [List.drop_zero] at hv2
   have hr2:Row wr B (qs ++ post):=by simpa using hrow2
   have hm:Pl.val xs % 1000000000 = rr:=by omega
   have hq:Pl.val qs = Pl.val xs / 1000000000:=by omega
   have HM:=hide hm
   have HQ:=hide hq
   clear hm hq hv hv2 hrow2
   go_wp2
   go_ret
   refine ⟨qs,ret_int ?_,by omega,hqw,unhide HQ,hr2,honly⟩
   rw [unhide HM]
  ·obtain ⟨j,rfl⟩:∃ j,k = j+1:=⟨k - 1,by omega⟩
   obtain ⟨x,hxx⟩:∃ x,x = xs[j]?.getD 0:=⟨_,rfl⟩
   obtain ⟨t,ht⟩:∃ t,t = rr * 4294967296+x:=⟨_,rfl⟩
   have hnl:=unhide hn
   have hx1:x < 4294967296:=by rw [hxx]; exact Pl.wf_at hx j
   have htl:(xs.take (j+1)).length = j+1:=by rw [List.length_take]; omega
   have htj:(xs.take j).length = j:=by rw [List.length_take]; omega
   have hcx:wr.cell? ⟨B,j,none⟩ = some (.int .u32 (x:Int)):=by
    rw [hrow2.cell j (by simp; omega),hxx,List.append_assoc,List.getElem?_append_left (by omega),List.getElem?_take,if_pos (by omega)]
   have hor:Go.bits BinOp.or IntKind.u64 ((rr:Int) * 4294967296) (x:Int) = (t:Int):=by rw [or_limb rr x (by omega) hx1,ht]; omega
   have hfq:=hrow2.frozen j
   have hq1:t / 1000000000 < 4294967296:=div_digit hrd hx1 ht
   have hm1:t % 1000000000 < 1000000000:=Nat.mod_lt _ (by omega)
   have hq1i:(t:Int) / 1000000000 < 4294967296:=by omega
   have HV:Hid (Pl.val (xs.drop j) = (t / 1000000000+4294967296 * Pl.val qs) * 1000000000+t % 1000000000):=by
    rw [Pl.drop_cons xs j (by omega),← hxx]; exact div_step hv ht
   have hs:=hrow2.set j (t / 1000000000) (by simp; omega)
   have es:(xs.take (j+1) ++ qs ++ post).set j (t / 1000000000) = xs.take j ++ (t / 1000000000 :: qs) ++ post:=by
    rw [Pl.take_snoc xs j (by omega),List.append_assoc,List.append_assoc,List.set_append_right _ _ (by omega),htj,Nat.sub_self]
    simp
   rw [es] at hs
   have HR:=hide hs
   clear hxx ht hv hrow2 hnl hs es htl htj
   go_wp2
   go_roundw
   case rel=>
    have e1:(t:Int) / 1000000000 = ((t / 1000000000:Nat):Int):=by omega
    have e2:(t:Int) % 1000000000 = ((t % 1000000000:Nat):Int):=by omega
    rw [e1,e2]
    exact ⟨j,t % 1000000000,t / 1000000000 :: qs,by omega,rfl,rfl,hm1,by simp; omega,Pl.wf_cons hq1 hqw,unhide HV,unhide HR,honly.setCell _ _⟩
   case measure=>simp [intOf]
theorem own_parts {w:World} {base n:Nat} {v:Value} {xs:List Nat} (hn:xs.length = n) (hp:0 < n) (h:w.ownsRow base 64 1 v n (xs.map (fun z:Nat=>Value.int .u32 (z:Int)))) :
  ∃ g c,v = .slice (some ⟨g,0,none⟩) n c∧base≤g∧n≤c∧c≤9223372036854775807∧Row w g xs∧Own w base (.slice (some ⟨g,0,none⟩) n c) xs:=by
 obtain ⟨_,h|⟨g,c,cur,hv,hg,hh,h1,h2,h3,h4⟩⟩:=h
 ·omega
 ·have hcur:cur = lc xs ++ (cur.toList.drop n).toArray:=by
   apply Array.toList_inj.1
   rw [Array.toList_append]
   simp only [lc]
   rw [← h4,Nat.mul_one,List.take_append_drop]
  have hrow:Row w g xs:=⟨(cur.toList.drop n).toArray,by rw [← hcur]; exact hh⟩
  have hc:c≤9223372036854775807:=by unfold maxLen at h2; exact h2
  refine ⟨g,c,hv,hg,h1,hc,hrow,Or.inr ⟨g,c,cur,by rw [hn],hg,hh,by omega,by omega,hc,fun j hj=>?_⟩⟩
  rw [hcur]; exact lc_at' xs _ j hj
theorem clone_some (b off cap n:Nat) (xs:List Nat) (w:World) (hn:Hid (xs.length = n)) (hp:0 < n) (hlen:n≤1073741824) (hlt:b < w.heap.size)
  (hc:∀ j,j < n→w.cell? ⟨b,off+j,none⟩ = some (.int .u32 ((xs[j]?.getD 0:Nat):Int))) :
  Calls Tryz.prog 102 #[.slice (some ⟨b,off,none⟩) n cap] w
   fun e w'=>∃ g c:Nat,e = .returned (.slice (some ⟨g,0,none⟩) n c)∧w.heap.size≤g∧n≤c∧c≤9223372036854775807∧Row w' g xs∧Own w' w.heap.size (.slice (some ⟨g,0,none⟩) n c) xs∧Below w.heap.size w w':=by
 have hni:=fun (w:World)=>Lib.run_eql_slice_nil (P:=Tryz.prog) w 24 64 (some ⟨b,off,none⟩) n cap 0 0 Tryz.under_limbs
 obtain ⟨i0,hi,hz0,hz1,hz2⟩:=info_parts Tryz.info_limb
 go_enter Tryz.func102,Tryz.ntmps102
 go_wp2_with (at_builtin; refine wpList_append_own _ rfl (.tmp 5) (.tmp 6) 24 rfl w.heap.size 64 i0 (.int .u32 0) 1 4 Tryz.under_limbs hi hz0 hz1 hz2 rfl (by decide) _ 0 [] rfl (World.ownsRow_made w #[] 0 (Nat.le_refl _) (by decide) rfl) ⟨b,off,none⟩ n cap (xs.map (fun z:Nat=>Value.int .u32 (z:Int))) rfl ?hl ?hnews ?h1 ?h63 ?hbytes ?hbase ?_)
 case hl=>have:=unhide hn; simp; omega
 case hnews=>
  intro j u hj
  have hl:=unhide hn
  have hjn:j < xs.length:=by
   have:=(List.getElem?_eq_some_iff.1 hj).1
   simpa using this
  have hu:u = .int .u32 ((xs[j]?.getD 0:Nat):Int):=by
   rw [List.getElem?_map,List.getElem?_eq_getElem hjn] at hj
   simp at hj
   rw [← hj]
   simp [hjn]
  rw [hu,Addr.add_lit,((gr_alloc w (.cells #[] 64)).cell (by exact hlt))]
  exact hc j (by omega)
 case h1=>
  intro u hu
  obtain ⟨z,_,rfl⟩:=List.mem_map.1 hu
  rfl
 case h63=>unfold maxLen; omega
 case hbytes=>omega
 case hbase=>simp
 intro v' w1 hown hgrow hnil
 obtain ⟨g,c,hv,hg,hnc,hc9,hrow,hO⟩:=own_parts (unhide hn) hp hown
 have hbl:Below w.heap.size w w1:=(gr_alloc w (.cells #[] 64)).grown hgrow (by simp) (fun k hk=>by simp [Value.ownBlock] at hk; omega)
 rw [hv]
 clear hown hgrow hnil hc hni
 go_wp2
 go_ret
 exact ⟨g,c,rfl,hg,hnc,hc9,hrow,hO,hbl⟩
theorem clone_nil (cap:Nat) (w:World) :
  Calls Tryz.prog 102 #[.slice none 0 cap] w fun e w'=>e = .returned (.slice none 0 0)∧w' = w:=by
 have hni:=fun (w:World)=>Lib.run_eql_slice_nil (P:=Tryz.prog) w 24 64 none 0 cap 0 0 Tryz.under_limbs
 go_enter Tryz.func102,Tryz.ntmps102
 go_wp2
 go_ret
 exact ⟨rfl,rfl⟩
theorem clone_empty (p:Addr) (cap:Nat) (w:World) :
  Calls Tryz.prog 102 #[.slice (some p) 0 cap] w fun e w'=>(∃ g c,e = .returned (.slice (some ⟨g,0,none⟩) 0 c)∧Own w' w.heap.size (.slice (some ⟨g,0,none⟩) 0 c) [])∧Below w.heap.size w w':=by
 have hni:=fun (w:World)=>Lib.run_eql_slice_nil (P:=Tryz.prog) w 24 64 (some p) 0 cap 0 0 Tryz.under_limbs
 go_enter Tryz.func102,Tryz.ntmps102
 go_wp2
 go_ret
 exact ⟨⟨w.heap.size,0,rfl,Or.inr ⟨w.heap.size,0,#[],rfl,Nat.le_refl _,heap_alloc_new w _,Nat.le_refl _,Nat.le_refl _,by omega,fun j hj=>by simp at hj⟩⟩,gr_alloc _ _⟩
theorem clone_any (a:Option Addr) (n cap m:Nat) (w:World) (h:Num w a n m) :
  Calls Tryz.prog 102 #[.slice a n cap] w fun e w'=>(∃ a' c,e = .returned (.slice a' n c)∧Mine w' w.heap.size a' n c m)∧Below w.heap.size w w':=by
 obtain ⟨xs,hn,hl,hw,hN,hv,hb⟩:=h
 rcases hl.parts with hx|⟨hp,b,off,rfl,hlt,hc⟩
 ·subst hx
  have hn0:n = 0:=by rw [← hn]; rfl
  subst hn0
  cases a with
  | none=>
   refine (clone_nil cap w).mono ?_
   rintro e w1 ⟨rfl,rfl⟩
   exact ⟨⟨none,0,rfl,[],rfl,Or.inl ⟨rfl,rfl⟩,hw,hN,hv,hb⟩,gr_refl _⟩
  | some p=>
   refine (clone_empty p cap w).mono ?_
   rintro e w1 ⟨⟨g,c,rfl,hO⟩,hb1⟩
   exact ⟨⟨_,c,rfl,[],rfl,hO,hw,hN,hv,hb⟩,hb1⟩
 ·refine (clone_some b off cap n xs w (hide hn) (by omega) (by omega) hlt (fun j hj=>hc j (by omega))).mono ?_
  rintro e w1 ⟨g,c,rfl,_,_,_,_,hO,hb1⟩
  exact ⟨⟨_,c,rfl,xs,hn,hO,hw,hN,hv,hb⟩,hb1⟩
def bc (ds:List Nat):Array Value:=(ds.map (fun z:Nat=>Value.int .u8 (z:Int))).toArray
def BRow (w:World) (B:Nat) (ds:List Nat):Prop:=w.heap[B]? = some (.cells (bc ds) 5 (0,0))
theorem size_bc (zs:List Nat):(bc zs).size = zs.length:=by simp [bc]
theorem bc_at (zs:List Nat) (j:Nat) (h:j < zs.length):(bc zs)[j]? = some (.int .u8 ((zs[j]?.getD 0:Nat):Int)):=by simp [bc,h]
theorem bc_set (zs:List Nat) (j v:Nat):(bc zs).setIfInBounds j (.int .u8 (v:Int)) = bc (zs.set j v):=by
 simp [bc,List.setIfInBounds_toArray,List.map_set]
theorem BRow.cell {w:World} {B:Nat} {zs:List Nat} (h:BRow w B zs) (j:Nat) (hj:j < zs.length):w.cell? ⟨B,j,none⟩ = some (.int .u8 ((zs[j]?.getD 0:Nat):Int)):=by
 rw [cell_of_row w B j _ _ _ h,bc_at zs j hj]
theorem BRow.frozen {w:World} {B:Nat} {zs:List Nat} (h:BRow w B zs) (j:Nat):w.frozen? ⟨B,j,none⟩ = false:=frozen_of_row w B j _ _ h
theorem BRow.set {w:World} {B:Nat} {zs:List Nat} (h:BRow w B zs) (j v:Nat):BRow (w.setCell ⟨B,j,none⟩ (.int .u8 (v:Int))) B (zs.set j v):=by
 unfold BRow; rw [heap_setCell_same w B j _ _ _ h,bc_set]
theorem BRow.lt {w:World} {B:Nat} {zs:List Nat} (h:BRow w B zs):B < w.heap.size:=by
 by_cases hlt:B < w.heap.size
 ·exact hlt
 ·unfold BRow at h; rw [Array.getElem?_eq_none (by omega)] at h; cases h
theorem BRow.only {w w':World} {B C:Nat} {zs:List Nat} (h:BRow w B zs) (k:Only C w w') (hne:B≠C):BRow w' B zs:=by
 unfold BRow; rw [k.block B hne]; exact h
theorem BRow.ne {w:World} {B C:Nat} {zs xs:List Nat} (h:BRow w B zs) (k:Row w C xs):B≠C:=by
 rintro rfl
 obtain ⟨tl,k⟩:=k
 unfold BRow at h
 rw [k] at h
 simp at h
theorem Tryz.info_byte:(Tryz.prog.info? 5).map (fun i=>(i.zero,i.size,i.bytes)) = some (some (.int .u8 0),1,1):=by kernel_rfl
theorem Tryz.under_bytes:Tryz.prog.underlying 77 = some (.slice 5):=by kernel_rfl
theorem made_bc (n:Nat):madeCells #[.int .u8 0] n = bc (List.replicate n 0):=by
 apply Array.toList_inj.1
 rw [toList_madeCells_one]
 simp [bc]
theorem make_bytes (C:Int) (n:Nat) (hC:C = (n:Int)) (hn:n≤1073741824) (w:World) :
  (Instr.makeSlice 77 (.int .i64 C) (.int .i64 C)).run Tryz.prog w = .ok (.slice (some ⟨w.heap.size,0,none⟩) n n) (w.alloc (.cells (bc (List.replicate n 0)) 5)):=by
 obtain ⟨i,hi,hz,hs,hb⟩:=info_parts Tryz.info_byte
 have:=run_make (P:=Tryz.prog) w 77 5 i (.int .u8 0) Tryz.under_bytes hi hz .i64 .i64 C C (by omega) (Int.le_refl _) (by rw [hb]; omega) (by omega)
 rw [this,hC,hs]
 simp only [Int.toNat_natCast,Nat.mul_one,Value.cells,made_bc]
theorem BRow.made (w:World) (zs:List Nat):BRow (w.alloc (.cells (bc zs) 5)) w.heap.size zs:=heap_alloc_new w _
def chars (ds:List Nat):List UInt8:=ds.map (fun d=>UInt8.ofNat (48+d))
def Says (s:ByteArray) (m:Nat):Prop:=∃ ds,s.data.toList = chars ds∧Pl.Dig ds∧Pl.Lead ds∧Pl.dval ds 0 = m
theorem dval_append (xs ys:List Nat):Pl.dval (xs ++ ys) 0 = Pl.dval xs 0 * 10 ^ ys.length+Pl.dval ys 0:=by
 have h:∀ (xs:List Nat) (a:Nat),Pl.dval (xs ++ ys) a = Pl.dval ys (Pl.dval xs a):=by
  intro xs
  induction xs with
  | nil=>intro a; rfl
  | cons x xs ih=>intro a; exact ih _
 rw [h,Pl.dval_eq]
theorem groups_le {M n p v:Nat} (h:M < 4294967296 ^ n) (hv:0 < v) (hM:v * 10 ^ p≤M):p < 10 * n:=by
 have h1:10 ^ p < 4294967296 ^ n:=by
  have:1 * 10 ^ p≤v * 10 ^ p:=Nat.mul_le_mul_right _ hv
  omega
 have h2:4294967296 ^ n≤10 ^ (10 * n):=by
  rw [Nat.pow_mul]; exact Nat.pow_le_pow_left (by decide) n
 by_cases hp:p < 10 * n
 ·exact hp
 ·have:=Nat.pow_le_pow_right (show 0 < 10 by decide) (show 10 * n≤p by omega)
  omega
theorem digit_step {G es q:Nat} (e:List Nat) (he:e.length = q) (hv:Pl.dval e 0 = es):G / 10 * 10 ^ (q+1)+Pl.dval (G % 10 :: e) 0 = G * 10 ^ q+es:=by
 rw [Pl.dval_cons,he,hv,Nat.pow_succ,Nat.mul_comm (10 ^ q) 10,← Nat.mul_assoc,← Nat.add_assoc,← Nat.add_mul]
 congr 2
 omega
theorem group_step {V Q G p M D E:Nat} (hV:Q = V / 1000000000) (hG:G = V % 1000000000) (h:V * 10 ^ p+D = M) (hE:E = G):Q * 10 ^ (p+9)+(E * 10 ^ p+D) = M:=by
 have e:V = Q * 1000000000+G:=by omega
 rw [← h,e,hE,Nat.pow_add,Nat.add_mul,Nat.mul_comm (10 ^ p) (10 ^ 9),← Nat.mul_assoc,Nat.add_assoc]
theorem set_rep0 (k v:Nat) (l:List Nat):(List.replicate (k+1) 0 ++ l).set k v = List.replicate k 0 ++ (v :: l):=by
 have e:=set_rep k v l []
 simpa using e
theorem dval_zeros (ds:List Nat) (k:Nat) (hk:k≤ds.length) (h:∀ j,j < k→ds[j]?.getD 0 = 0):Pl.dval (ds.drop k) 0 = Pl.dval ds 0:=by
 induction k with
 | zero=>rfl
 | succ k ih=>
  rw [← ih (by omega) (fun j hj=>h j (by omega)),Pl.drop_cons ds k (by omega),Pl.dval_cons,h k (by omega)]
  simp
theorem Tryz.under_byte:Tryz.prog.underlying 5 = some (.int .u8):=by kernel_rfl
theorem Tryz.under_string:Tryz.prog.underlying 9 = some .string:=by kernel_rfl
theorem text_bytes (w:World) (B at0 k L:Nat) (ds:List Nat) (h:BRow w B (List.replicate at0 0 ++ ds.map (48+·))) (hd:Pl.Dig ds) (hL:at0+ds.length = L) (hk:k≤ds.length) :
  (convert 77 9 (.slice (some ⟨B,at0+k,none⟩) (L - (at0+k)) (L - (at0+k)))).run Tryz.prog w = .ok (.string ⟨(chars (ds.drop k)).toArray⟩) w:=by
 have e:L - (at0+k) = (chars (ds.drop k)).length:=by simp [chars]; omega
 rw [e]
 refine run_convert_bytes_back w 77 9 5 ⟨B,at0+k,none⟩ _ _ Tryz.under_bytes Tryz.under_byte Tryz.under_string ?_
 intro j hj
 have hj2:k+j < ds.length:=by simp [chars] at hj; omega
 have hdl:ds[k+j] < 10:=hd _ (List.getElem_mem _)
 rw [Addr.add_lit,h.cell (at0+k+j) (by simp; omega),List.getElem?_append_right (by simp; omega),List.length_replicate,show at0+k+j - at0 = k+j by omega,List.getElem?_map,List.getElem?_eq_getElem hj2]
 simp [chars]
 omega
theorem text_some (b off cap n:Nat) (xs:List Nat) (w:World) (hn:Hid (xs.length = n)) (hp:0 < n) (hlen:n≤16384) (hw:Pl.Wf xs) (hN:Pl.Norm xs) (hlt:b < w.heap.size)
  (hc:∀ j,j < n→w.cell? ⟨b,off+j,none⟩ = some (.int .u32 ((xs[j]?.getD 0:Nat):Int))) :
  Calls Tryz.prog 79 #[.agg #[.slice (some ⟨b,off,none⟩) n cap]] w
   fun e w'=>∃ s:ByteArray,e = .returned (.tuple #[.string s,.int .i64 0])∧Says s (Pl.val xs)∧Below w.heap.size w w':=by
 have hl:Lim w (some ⟨b,off,none⟩) xs:=Or.inr ⟨b,off,rfl,fun j hj=>hc j (by rw [← unhide hn]; exact hj)⟩
 have hck:=check_any (some ⟨b,off,none⟩) cap xs (w.alloc (.cells #[.slice (some ⟨b,off,none⟩) n cap] 26)) (by rw [unhide hn]; omega) (hl.alloc _)
 rw [unhide hn,chk_ok (by rw [unhide hn]; exact hlen) hN] at hck
 have HK:=hide hck
 clear hck hl
 have hn0:((n:Int) == 0) = false:=by simp; omega
 have hmk:=make_bytes (10 * (n:Int)+9) (10 * n+9) (by omega) (by omega)
 go_enter Tryz.func79,Tryz.ntmps79
 go_wp2_with fail
 refine (unhide HK).mono ?_
 rintro e w1 ⟨rfl,hb1⟩
 obtain ⟨hc1,hf1⟩:=bcell hb1
 go_wp2_with fail
 have hBw:=gr_trans (gr_alloc w (.cells #[.slice (some ⟨b,off,none⟩) n cap] 26)) hb1
 refine (clone_some b off cap n xs w1 hn hp (by omega) (Nat.lt_of_lt_of_le hlt hBw.size) (fun j hj=>(hBw.cell (by exact hlt)).trans (hc j hj))).mono ?_
 rintro e w2 ⟨g,c,rfl,hg,hgc,hc9,hrow,_,hb2⟩
 have HB2:=hide (gr_trans hBw hb2)
 have hs2:w.heap.size≤w1.heap.size:=hBw.size
 clear hb1 hb2 hc1 hf1 hBw HK hc
 go_wp2
 have hgT:g≠w2.heap.size:=Nat.ne_of_lt hrow.lt
 have hgw:w.heap.size≤g:=Nat.le_trans hs2 hg
 have hTw:w.heap.size≤w2.heap.size:=(unhide HB2).size
 have hM:Pl.val xs < 4294967296 ^ n:=by rw [← unhide hn]; exact Pl.val_lt hw
 have HMv:=hide hM
 have HR0:=hide (hrow.kept (gr_alloc w2 (.cells (bc (List.replicate (10 * n+9) 0)) 5)))
 have hxn:=unhide hn
 clear hM hrow hmk
 go_loopw [5,7] (fun r t wr=>∃ (l c' p at0:Nat) (cur ds:List Nat),r = .slice (some ⟨g,0,none⟩) l c'∧t = .int .i64 (at0:Int)∧cur.length = l∧l≤n∧l≤c'∧c'≤9223372036854775807∧at0+p = 10 * n+9∧ds.length = p∧Pl.Wf cur∧Pl.Norm cur∧Pl.Dig ds ∧
   Pl.val cur * 10 ^ p+Pl.dval ds 0 = Pl.val xs∧Row wr g cur∧BRow wr w2.heap.size (List.replicate at0 0 ++ ds.map (48+·))∧Below w.heap.size w wr) (fun _ t _=>(intOf t).toNat)
 case atStart=>
  refine ⟨n,c,0,10 * n+9,xs,[],rfl,by go_num,hxn,Nat.le_refl _,hgc,hc9,by omega,rfl,hw,hN,fun d hd=>by simp at hd,by simp [Pl.dval],unhide HR0,?_,gr_trans (unhide HB2) (gr_alloc _ _)⟩
  rw [List.map_nil,List.append_nil]; exact BRow.made _ _
 case round=>
  obtain ⟨l,c',p,at0,cur,ds,rfl,rfl,hcl,hln,hlc,hc9',hat,hdl,hcw,hcN,hdd,hval,hrw,hbr,hbel⟩:=hrel
  have HV:=hide hval
  have HCL:=hide hcl
  clear hval hcl hxn
  by_cases hl0:l = 0
  ·subst hl0
   have hcn:cur = []:=List.length_eq_zero_iff.1 (unhide HCL)
   have hdv:Pl.dval ds 0 = Pl.val xs:=by have:=unhide HV; rw [hcn] at this; simpa [Pl.val] using this
   have HDV:=hide hdv
   have hpos:0 < Pl.val xs:=by
    have h1:=Pl.norm_lower hN (by rw [unhide hn]; exact hp)
    have h2:0 < 4294967296 ^ (xs.length - 1):=Nat.pow_pos (by decide)
    omega
   have hfin:∀ k,k≤p→(∀ j,j < k→ds[j]?.getD 0 = 0)→k < p:=by
    intro k hk h
    by_cases e:k = p
    ·have:=dval_zeros ds k (by omega) h
     rw [List.drop_eq_nil_of_le (by omega)] at this
     rw [← this] at hdv
     simp [Pl.dval] at hdv
     omega
    ·omega
   have HF:=hide hfin
   clear hdv hcn hfin
   go_wp2
   go_loop [7] (fun t=>∃ k:Nat,k≤p∧t = .int .i64 ((at0:Int)+(k:Int))∧∀ j,j < k→ds[j]?.getD 0 = 0) (fun t=>10 * n+9 - (intOf t).toNat)
   case atStart=>exact ⟨0,by omega,by simp,fun j hj=>by omega⟩
   case round=>
    obtain ⟨k,hkp,rfl,hz⟩:=hrel
    have hkp2:k < p:=unhide HF k hkp hz
    obtain ⟨d,hd⟩:∃ d,d = ds[k]?.getD 0:=⟨_,rfl⟩
    have hd10:d < 10:=by
     rw [hd]
     rw [List.getElem?_eq_getElem (by omega)]
     exact hdd _ (List.getElem_mem _)
    have hcd:wr.cell? ⟨w2.heap.size,at0+k,none⟩ = some (.int .u8 (48+(d:Int))):=by
     rw [hbr.cell (at0+k) (by simp; omega),List.getElem?_append_right (by simp),List.length_replicate,Nat.add_sub_cancel_left,List.getElem?_map,List.getElem?_eq_getElem (by omega)]
     rw [List.getElem?_eq_getElem (by omega)] at hd
     simp at hd
     simp [← hd]
    have HZ:=hide hz
    have HD:=hide hd
    clear hz hd
    by_cases hd0:d = 0
    ·subst hd0
     go_wp2
     go_round
     case rel=>
      refine ⟨k+1,by omega,by go_num,fun j hj=>?_⟩
      by_cases e:j = k
      ·rw [e]; exact (unhide HD).symm
      ·exact unhide HZ j (by omega)
     case measure=>simp [intOf]; omega
    ·obtain ⟨v,hv⟩:∃ v,v = 48+d:=⟨_,rfl⟩
     have hcd2:wr.cell? ⟨w2.heap.size,at0+k,none⟩ = some (.int .u8 (v:Int)):=by rw [hcd,hv]; rfl
     have hdb:((v:Int) == 48) = false:=by simp; omega
     have hcv:=text_bytes wr w2.heap.size at0 k (10 * n+9) ds hbr hdd (by omega) (by omega)
     generalize hs:(⟨(chars (ds.drop k)).toArray⟩:ByteArray) = s at *
     have HS:=hide hs
     have HSY:Hid (Says s (Pl.val xs)):=by
      refine ⟨ds.drop k,by rw [← hs],fun x hx=>hdd x (List.mem_of_mem_drop hx),⟨?_,Or.inl ?_⟩,by rw [dval_zeros ds k (by omega) (unhide HZ)]; exact unhide HDV⟩
      ·intro e
       have:=congrArg List.length e
       simp at this
       omega
      ·rw [Pl.drop_cons ds k (by omega),← unhide HD]; simpa using hd0
     clear hbr hcd hv hd0 hs
     go_wp2
     go_ret2
     exact ⟨s,rfl,unhide HSY,hbel⟩
  ·have hlp:0 < l:=by omega
   go_wp2_with fail
   refine (cutGroup_any g c' l cur [] wr HCL (by omega) hcw (by rw [List.append_nil]; exact hrw)).mono ?_
   rintro e w3 ⟨qs,rfl,hql,hqw,hqv,hr3,ho3⟩
   rw [List.append_nil] at hr3
   generalize hG:Pl.val cur % 1000000000 = G at *
   have hG9:G < 1000000000:=by omega
   have HG:=hide hG
   have HQV:=hide hqv
   have hbr3:=hbr.only ho3 hgT.symm
   have hbel3:=ho3.below hbel hgw
   have hcv:0 < Pl.val cur:=by
    have h1:=Pl.norm_lower hcN (by rw [unhide HCL]; exact hlp)
    have h2:0 < 4294967296 ^ (cur.length - 1):=Nat.pow_pos (by decide)
    omega
   have hp10:p < 10 * n:=groups_le (unhide HMv) hcv (by have:=unhide HV; omega)
   clear hG hqv hbr hbel hrw ho3 hcv
   go_wp2_with fail
   refine (trim_at g 0 l c' qs w3 hql hlc hc9' (fun j hj=>by rw [Nat.zero_add]; exact hr3.cell j hj)).mono ?_
   rintro e w4 ⟨rfl,l2,hl2,h0,h1,rfl⟩
   have HT:=hide (trim_row hr3 (Nat.zero_le _) (by omega) hqw hl2 h0 h1)
   clear h0 h1
   go_wp2_with fail
   go_loopw [7,8,35] (fun t gr i wr2=>∃ (q G' at2:Nat) (es:List Nat),q≤9∧i = .int .i64 (q:Int)∧gr = .int .u32 (G':Int)∧t = .int .i64 (at2:Int)∧at2+q = at0∧G' < 1000000000∧es.length = q∧Pl.Dig es∧G' * 10 ^ q+Pl.dval es 0 = G ∧
     BRow wr2 w2.heap.size (List.replicate at2 0 ++ (es ++ ds).map (48+·))∧Row wr2 g qs∧Below w.heap.size w wr2) (fun _ _ i _=>9 - (intOf i).toNat)
   case atStart=>exact ⟨0,G,at0,[],by omega,rfl,rfl,rfl,rfl,hG9,rfl,fun d hd=>by simp at hd,by simp [Pl.dval],hbr3,hr3,hbel3⟩
   case round=>
    clear hbr3 hr3 hbel3
    obtain ⟨q,G',at2,es,hq9,rfl,rfl,rfl,ha2,hG'9,hel,hed,hev,hbr4,hr4,hbel4⟩:=hrel
    have HEV:=hide hev
    have HEL:=hide hel
    clear hev hel
    by_cases hq:q < 9
    ·obtain ⟨at3,rfl⟩:∃ at3,at2 = at3+1:=⟨at2 - 1,by omega⟩
     have hcs:=hbr4.cell at3 (by simp; omega)
     have hfs:=hbr4.frozen at3
     have hs:=hbr4.set at3 (48+G' % 10)
     rw [set_rep0] at hs
     have HS:=hide hs
     have HR4:=hide hr4
     have hne4:=hbr4.ne hr4
     clear hbr4 hr4 hs
     go_wp2
     go_roundw
     case rel=>
      have e1:(48:Int)+(G':Int) % 10 = ((48+G' % 10:Nat):Int):=by omega
      have e2:(G':Int) / 10 = ((G' / 10:Nat):Int):=by omega
      rw [e1,e2]
      refine ⟨q+1,G' / 10,at3,G' % 10 :: es,by omega,by go_num,rfl,rfl,by omega,by omega,by simp [unhide HEL],?_,?_,unhide HS,(unhide HR4).only ((Only.refl _ wr).setCell at3 _) hgT,hbel4.setCell hTw _⟩
      ·intro d hd
       rcases List.mem_cons.1 hd with rfl|hd
       ·omega
       ·exact hed d hd
      ·rw [digit_step es (unhide HEL) rfl]; exact unhide HEV
     case measure=>simp [intOf]; omega
    ·have hq9':q = 9:=by omega
     subst hq9'
     go_wp2
     go_roundw
     case rel=>
      obtain ⟨t1,t2,t3,t4,t5⟩:=unhide HT
      have hE:Pl.dval es 0 = G:=by have:=unhide HEV; omega
      refine ⟨l2,l2,p+9,at2,qs.take l2,es ++ ds,rfl,rfl,t1,by omega,Nat.le_refl _,by omega,by omega,by rw [List.length_append,unhide HEL]; omega,t3,t4,?_,?_,hr4.prefix l2,hbr4,hbel4⟩
      ·intro d hd
       rcases List.mem_append.1 hd with hd|hd
       ·exact hed d hd
       ·exact hdd d hd
      ·rw [t5,dval_append,hdl]
       exact group_step (unhide HQV) (unhide HG).symm (unhide HV) hE
     case measure=>simp [intOf]; omega
theorem says_zero:Says ⟨#[48]⟩ 0:=⟨[0],rfl,fun d hd=>by simp at hd; omega,⟨by simp,Or.inr rfl⟩,rfl⟩
theorem text_nil (a:Option Addr) (cap:Nat) (w:World) :
  Calls Tryz.prog 79 #[.agg #[.slice a 0 cap]] w fun e w'=>∃ s:ByteArray,e = .returned (.tuple #[.string s,.int .i64 0])∧Says s 0∧Below w.heap.size w w':=by
 have hck:=check_any a cap [] (w.alloc (.cells #[.slice a 0 cap] 26)) (by simp) (Or.inl rfl)
 rw [chk_ok (by simp) Pl.norm_nil] at hck
 have HK:=hide hck
 clear hck
 go_enter Tryz.func79,Tryz.ntmps79
 go_wp2_with fail
 refine (unhide HK).mono ?_
 rintro e w1 ⟨rfl,hb1⟩
 obtain ⟨hc1,hf1⟩:=bcell hb1
 go_wp2
 go_ret2
 exact ⟨_,rfl,says_zero,gr_trans (gr_alloc _ _) hb1⟩
theorem text_any (a:Option Addr) (n cap m:Nat) (w:World) (h:Num w a n m) :
  Calls Tryz.prog 79 #[.agg #[.slice a n cap]] w fun e w'=>∃ s:ByteArray,e = .returned (.tuple #[.string s,.int .i64 0])∧Says s m∧Below w.heap.size w w':=by
 obtain ⟨xs,hn,hl,hw,hN,hv,hb⟩:=h
 rcases hl.parts with hx|⟨hp,b,off,rfl,hlt,hc⟩
 ·subst hx
  have hn0:n = 0:=by rw [← hn]; rfl
  have hm0:m = 0:=by rw [← hv]; rfl
  subst hn0 hm0
  exact text_nil a cap w
 ·rw [← hv]
  exact text_some b off cap n xs w (hide hn) (by omega) hb hw hN hlt (fun j hj=>hc j (by omega))
theorem says_eq {s t:ByteArray} {m:Nat} (h:Says s m) (k:Says t m):s = t:=by
 obtain ⟨ds,h1,h2,h3,h4⟩:=h
 obtain ⟨es,k1,k2,k3,k4⟩:=k
 have e:=Pl.dval_inj h2 k2 h3 k3 (by omega)
 subst e
 have:s.data = t.data:=Array.toList_inj.1 (by rw [h1,k1])
 cases s; cases t; simpa using this
def Room (w:World) (g:Nat) (xs:List Nat) (c:Nat):Prop:=∃ tl:Array Value,w.heap[g]? = some (.cells (lc xs ++ tl) 64 (0,0))∧xs.length+tl.size = c∧c≤9223372036854775807
theorem Room.row {w:World} {g c:Nat} {xs:List Nat} (h:Room w g xs c):Row w g xs:=by
 obtain ⟨tl,h,_⟩:=h
 exact ⟨tl,h⟩
theorem Room.len {w:World} {g c:Nat} {xs:List Nat} (h:Room w g xs c):xs.length≤c∧c≤9223372036854775807:=by
 obtain ⟨tl,_,h1,h2⟩:=h
 omega
theorem Room.set {w:World} {g c:Nat} {xs:List Nat} (h:Room w g xs c) (j v:Nat) (hj:j < xs.length):Room (w.setCell ⟨g,j,none⟩ (.int .u32 (v:Int))) g (xs.set j v) c:=by
 obtain ⟨tl,h,h1,h2⟩:=h
 refine ⟨tl,?_,by rw [List.length_set]; exact h1,h2⟩
 rw [heap_setCell_same w g j _ _ _ h,Array.setIfInBounds_append_left (by rw [size_lc]; exact hj),lc_set]
theorem Room.made (w:World) (n:Nat) (hn:n≤9223372036854775807):Room (w.alloc (.cells (lc (List.replicate n 0)) 64)) w.heap.size [] n:=
 ⟨lc (List.replicate n 0),by rw [heap_alloc_new]; simp [lc],by rw [size_lc]; simp,hn⟩
theorem Room.owns {w:World} {g c base:Nat} {xs:List Nat} (h:Room w g xs c) (hb:base≤g):w.ownsRow base 64 1 (.slice (some ⟨g,0,none⟩) xs.length c) xs.length (xs.map (fun z:Nat=>Value.int .u32 (z:Int))):=by
 obtain ⟨tl,hh,h1,h2⟩:=h
 refine ⟨by simp,.inr ⟨g,c,_,rfl,hb,hh,by omega,by unfold maxLen; exact h2,?_,?_⟩⟩
 ·rw [Array.size_append,size_lc]; omega
 ·rw [Array.toList_append,List.take_append_of_le_length (by simp [lc])]
  simp only [lc,Nat.mul_one]
  rw [List.take_of_length_le (by simp)]
theorem room_of {w:World} {base n:Nat} {v:Value} {xs:List Nat} (hn:xs.length = n) (hp:0 < n) (h:w.ownsRow base 64 1 v n (xs.map (fun z:Nat=>Value.int .u32 (z:Int)))) :
  ∃ g c,v = .slice (some ⟨g,0,none⟩) n c∧base≤g∧Room w g xs c:=by
 obtain ⟨_,h|⟨g,c,cur,hv,hg,hh,h1,h2,h3,h4⟩⟩:=h
 ·omega
 ·have hcur:cur = lc xs ++ (cur.toList.drop n).toArray:=by
   apply Array.toList_inj.1
   rw [Array.toList_append]
   simp only [lc]
   rw [← h4,Nat.mul_one,List.take_append_drop]
  refine ⟨g,c,hv,hg,(cur.toList.drop n).toArray,by rw [← hcur]; exact hh,?_,by unfold maxLen at h2; exact h2⟩
  simp
  omega
def DigS (s:ByteArray) (ds:List Nat):Prop:=s.size = ds.length∧Pl.Dig ds∧∀ (k:Nat) (h:k < s.size),(s[k]'h).toNat = 48+ds[k]?.getD 0
theorem dval_snoc (ds:List Nat) (k:Nat) (h:k < ds.length):Pl.dval (ds.take (k+1)) 0 = Pl.dval (ds.take k) 0 * 10+ds[k]?.getD 0:=by
 rw [Pl.take_snoc ds k h,dval_append]
 simp [Pl.dval]
theorem pg_step {o c f p s t B q r G:Nat} (B':Nat) (hB:B' = B * 4294967296) (h:o+B * c = f * p+G) (ht:t = c+s * f) (e:t = 4294967296 * q+r):(o+B * r)+B' * q = f * (p+B * s)+G:=by
 subst hB
 have e1:B * t = B * 4294967296 * q+B * r:=by rw [e,Nat.mul_add,Nat.mul_assoc]
 have e2:B * t = B * c+f * (B * s):=by rw [ht,Nat.mul_add]; congr 1; rw [Nat.mul_comm s f,Nat.mul_left_comm]
 rw [Nat.mul_add f]
 omega
theorem pg_carry {c f x q r:Nat} (hc:c < f) (hx:x < 4294967296) (e:c+x * f = 4294967296 * q+r):q < f:=by
 have h1:x * f≤4294967295 * f:=Nat.mul_le_mul_right _ (by omega)
 omega
theorem mul_hi9 {x f:Nat} (hx:x < 4294967296) (hf:f≤1000000000):(x:Int) * (f:Int)≤4294967295000000000:=by
 have:x * f≤4294967295 * 1000000000:=Nat.mul_le_mul (by omega) (by omega)
 rw [← Int.natCast_mul]; omega
theorem pow_nine {k:Nat} (h:k≤9):10 ^ k≤1000000000:=Nat.pow_le_pow_right (show 0 < 10 by decide) (show k≤9 by omega)
theorem dig_take {ds:List Nat} (h:Pl.Dig ds) (k:Nat):Pl.Dig (ds.take k):=fun d hd=>h d (List.mem_of_mem_take hd)
def PutTo (base n:Nat) (xs ds:List Nat) (w:World) (e:Ending) (w':World):Prop:=
 ∃ g' n' c' ys,e = .returned (.slice (some ⟨g',0,none⟩) n' c')∧base≤g'∧Room w' g' ys c'∧ys.length = n'∧n'≤n+1∧Pl.Wf ys∧Pl.val ys = Pl.val xs * 10 ^ ds.length+Pl.dval ds 0∧Below base w w'
theorem putGroup_any (base g n c q:Nat) (s:ByteArray) (xs ds:List Nat) (w:World) (hq:Hid (s.size = q)) (hq9:q≤9) (hS:Hid (DigS s ds)) (hn:Hid (xs.length = n)) (hlen:n≤20000) (hx:Pl.Wf xs) (hbg:base≤g) (hbw:base≤w.heap.size) (hR:Room w g xs c) :
  Calls Tryz.prog 99 #[.slice (some ⟨g,0,none⟩) n c,.string s] w (PutTo base n xs ds w):=by
 obtain ⟨i0,hi,hz0,hz1,hz2⟩:=info_parts Tryz.info_limb
 have hsz:s.size≤9:=by rw [unhide hq]; exact hq9
 go_enter Tryz.func99,Tryz.ntmps99
 go_wp2
 go_loopw [5,6,12] (fun t f i wr=>∃ (k v p:Nat),k≤s.size∧i = .int .i64 k∧t = .int .u64 (v:Int)∧f = .int .u64 (p:Int)∧p = 10 ^ k∧v = Pl.dval (ds.take k) 0∧w = wr) (fun _ _ i _=>s.size - (intOf i).toNat)
 case atStart=>exact ⟨0,0,1,Nat.zero_le _,rfl,rfl,rfl,rfl,rfl,rfl⟩
 case round=>
  obtain ⟨k,v,p,hk,rfl,rfl,rfl,hp,hv,rfl⟩:=hrel
  obtain ⟨hs1,hs2,hs3⟩:=unhide hS
  have hp9:p≤1000000000:=by rw [hp]; exact pow_nine (by omega)
  have hvp:v < p:=by
   have:=Pl.dval_lt (dig_take hs2 k)
   rw [List.length_take,Nat.min_eq_left (by omega),← hv,← hp] at this
   exact this
  by_cases hks:k < s.size
  ·obtain ⟨x,hxx⟩:∃ x,x = ds[k]?.getD 0:=⟨_,rfl⟩
   have hx10:x < 10:=by
    rw [hxx,List.getElem?_eq_getElem (by omega)]
    exact hs2 _ (List.getElem_mem _)
   have hsx:(s[k]'hks).toNat = 48+x:=by rw [hxx]; exact hs3 k hks
   have hp8:p≤100000000:=by rw [hp]; exact Nat.pow_le_pow_right (show 0 < 10 by decide) (show k≤8 by omega)
   have HV:Hid (v * 10+x = Pl.dval (ds.take (k+1)) 0):=hide (by rw [dval_snoc ds k (by omega),← hv,← hxx])
   have HP:Hid (p * 10 = 10 ^ (k+1)):=hide (by rw [hp,Nat.pow_succ])
   clear hp hv hxx hs1 hs2 hs3
   go_wp2
   go_roundw
   case rel=>
    exact ⟨k+1,v * 10+x,p * 10,by omega,by go_num,by go_num,by go_num,unhide HP,(unhide HV),trivial⟩
   case measure=>simp [intOf]; omega
  ·have hke:k = s.size:=by omega
   have HP:Hid (p = 10 ^ ds.length):=hide (by rw [hp,hke,hs1])
   have HV:Hid (v = Pl.dval ds 0):=hide (by rw [hv,List.take_of_length_le (by omega)])
   clear hp hv hs1 hs2 hs3
   go_wp2
   go_loopw [5,28] (fun t i wr=>∃ (j cc:Nat) (out:List Nat),j≤n∧i = .int .i64 (j:Int)∧t = .int .u64 (cc:Int)∧cc < p∧out.length = j∧Pl.Wf out∧Pl.val out+4294967296 ^ j * cc = p * Pl.val (xs.take j)+v ∧
     Room wr g (out ++ xs.drop j) c∧Below base w wr) (fun _ i _=>n - (intOf i).toNat)
   case atStart=>exact ⟨0,v,[],Nat.zero_le _,rfl,rfl,hvp,rfl,Pl.wf_nil,by simp [Pl.val],by simpa using hR,Below.refl _ _⟩
   case round=>
    obtain ⟨j,cc,out,hj,rfl,rfl,hcc,hol,how,hval,hRR,hbel⟩:=hrel
    have hnl:=unhide hn
    have HVal:=hide hval
    clear hval
    by_cases hjn:j < n
    ·obtain ⟨x,hxx⟩:∃ x,x = xs[j]?.getD 0:=⟨_,rfl⟩
     have hx1:x < 4294967296:=by rw [hxx]; exact Pl.wf_at hx j
     have hat:=at_mid [] out xs [] j hol (by omega)
     simp only [List.nil_append,List.append_nil,List.length_nil,Nat.zero_add] at hat
     have hcx:wr.cell? ⟨g,j,none⟩ = some (.int .u32 (x:Int)):=by rw [hRR.row.cell j (by simp; omega),hat,hxx]
     have hfz:wr.frozen? ⟨g,j,none⟩ = false:=hRR.row.frozen j
     obtain ⟨t,ht⟩:∃ t,t = cc+x * p:=⟨_,rfl⟩
     have hm0:=mul_lo x p
     have hm1:=mul_hi9 hx1 hp9
     have hti:(cc:Int)+(x:Int) * (p:Int) = (t:Int):=by rw [ht,Int.natCast_add,Int.natCast_mul]
     have ht1:t < 18446744073709551616:=by omega
     have hqc:t / 4294967296 < p:=pg_carry hcc hx1 (by rw [← ht]; exact (Nat.div_add_mod t 4294967296).symm)
     have HV2:Hid (Pl.val (out ++ [t % 4294967296])+4294967296 ^ (j+1) * (t / 4294967296) = p * Pl.val (xs.take (j+1))+v):=by
      rw [Pl.val_append,Pl.val_one,hol,Pl.val_take_any xs j,← hxx]
      exact pg_step _ (Nat.pow_succ ..) (unhide HVal) ht (Nat.div_add_mod t 4294967296).symm
     have hset:=hRR.set j (t % 4294967296) (by simp; omega)
     have es:=set_mid [] out xs [] j (t % 4294967296) hol (by omega)
     simp only [List.nil_append,List.append_nil,List.length_nil,Nat.zero_add] at es
     rw [es] at hset
     have HSet:=hide hset
     clear hset es hat hxx hRR ht hnl
     go_wp2
     go_roundw
     case rel=>
      have e1:(t:Int) / 4294967296 = ((t / 4294967296:Nat):Int):=by omega
      have e2:(t:Int) % 4294967296 = ((t % 4294967296:Nat):Int):=by omega
      rw [e1,e2]
      exact ⟨j+1,t / 4294967296,out ++ [t % 4294967296],by omega,by go_num,rfl,hqc,by simp [hol],Pl.wf_append how (Pl.wf_one (by omega)),unhide HV2,unhide HSet,hbel.setCell hbg _⟩
     case measure=>simp [intOf]; omega
    ·have hje:j = n:=by omega
     subst hje
     have hxt:xs.take j = xs:=List.take_of_length_le (by omega)
     have hxd:xs.drop j = []:=List.drop_eq_nil_of_le (by omega)
     rw [hxd,List.append_nil] at hRR
     have HV2:Hid (Pl.val out+4294967296 ^ j * cc = Pl.val xs * 10 ^ ds.length+Pl.dval ds 0):=hide (by
      have:=unhide HVal
      rw [hxt,unhide HP,unhide HV,Nat.mul_comm (10 ^ ds.length)] at this
      exact this)
     clear HVal hxt hxd hnl
     by_cases hc0:cc = 0
     ·subst hc0
      go_wp2
      go_ret
      exact ⟨g,j,c,out,rfl,hbg,hRR,hol,by omega,how,by have:=unhide HV2; rw [Nat.mul_zero,Nat.add_zero] at this; exact this,hbel⟩
     ·have hcb:((cc:Int) == 0) = false:=by simp; omega
      have hown:=hRR.owns hbg
      rw [hol] at hown
      have hbs:base≤wr.heap.size:=Nat.le_trans hbw hbel.size
      have hcc32:cc < 4294967296:=by omega
      clear hc0
      go_wp2_with (at_builtin; refine wpList_append_own _ rfl (.tmp 50) (.tmp 53) 24 rfl base 64 i0 (.int .u32 0) 1 4 Tryz.under_limbs hi hz0 hz1 hz2 rfl (by decide) _ j _ rfl (hown.alloc _) ⟨wr.heap.size,0,none⟩ 1 1 [.int .u32 (cc:Int)] rfl rfl (cell_one_new _ _ _) (fun x hx=>by simp at hx; subst hx; rfl) (by unfold maxLen; omega) (by omega) (by simp; omega) ?_)
      intro v' w1 hown1 hgrow hnil
      have e1:out.map (fun z:Nat=>Value.int .u32 (z:Int)) ++ [Value.int .u32 (cc:Int)] = (out ++ [cc]).map (fun z:Nat=>Value.int .u32 (z:Int)):=by simp
      rw [e1] at hown1
      obtain ⟨g',c',hv',hg',hroom⟩:=room_of (by simp [hol]) (by omega) hown1
      have hbl:Below base w w1:=(hbel.alloc hbs _).grown hgrow (by simp; omega) (fun q hq=>by simp [Value.ownBlock] at hq; omega)
      rw [hv']
      have HV3:Hid (Pl.val (out ++ [cc]) = Pl.val xs * 10 ^ ds.length+Pl.dval ds 0):=hide (by rw [Pl.val_append,Pl.val_one,hol]; exact unhide HV2)
      clear hown1 hgrow hnil hv' HV2 e1
      go_wp2
      go_ret
      exact ⟨g',j+1,c',out ++ [cc],rfl,hg',hroom,by simp [hol],Nat.le_refl _,Pl.wf_append how (Pl.wf_one hcc32),unhide HV3,hbl⟩
def NoLimb (l:List Value):Prop:=∀ v,v∈l→∀ z,v≠.int .u32 z
def noLimb:List Value→Bool
 | []=>true
 | .int .u32 _ :: _=>false
 | _ :: r=>noLimb r
theorem noLimb_of:∀ (l:List Value),noLimb l = true→NoLimb l
 | [],_=>fun _ h=>nomatch h
 | v :: r,h=>by
  have hr:noLimb r = true∧∀ z,v≠.int .u32 z:=by
   unfold noLimb at h
   split at h
   ·rename_i e; cases e
   ·cases h
   ·rename_i x y hx hy
    injection hy with e1 e2
    subst e1; subst e2
    exact ⟨h,fun z e=>hx z e⟩
  intro u hu z
  rcases List.mem_cons.1 hu with rfl|hu
  ·exact hr.2 z
  ·exact noLimb_of r hr.1 u hu z
theorem Lim.put {W:World} {a:Option Addr} {xs:List Nat} (h:Lim W a xs) {b:Nat} {cs:Array Value} {t:TypeId} (hb:W.heap[b]? = some (.cells cs t (0,0))) (hl:NoLimb cs.toList) (j:Nat) (u:Value):Lim (W.setCell ⟨b,j,none⟩ u) a xs:=by
 rcases h.parts with h|⟨hp,g,off,ha,hlt,hc⟩
 ·exact Or.inl h
 ·have hne:g≠b:=by
   rintro rfl
   have h0:=hc 0 hp
   rw [cell_of_row W g (off+0) _ _ _ hb] at h0
   have h1:Value.int .u32 ((xs[0]?.getD 0:Nat):Int)∈cs.toList:=by
    have:=Array.mem_of_getElem? h0
    exact Array.mem_def.1 this
   exact hl _ h1 _ rfl
  refine Or.inr ⟨g,off,ha,fun j' hj=>?_⟩
  rw [World.cell?_of_block (w:=W) (heap_setCell_other W _ g u hne)]
  exact hc j' hj
theorem Num.put {W:World} {a:Option Addr} {n m:Nat} (h:Num W a n m) {b:Nat} {cs:Array Value} {t:TypeId} (hb:W.heap[b]? = some (.cells cs t (0,0))) (hl:NoLimb cs.toList) (j:Nat) (u:Value):Num (W.setCell ⟨b,j,none⟩ u) a n m:=by
 obtain ⟨xs,hn,hl',r⟩:=h
 exact ⟨xs,hn,hl'.put hb hl j u,r⟩
theorem Mine.put {W:World} {base:Nat} {a:Option Addr} {n c m:Nat} (h:Mine W base a n c m) {b:Nat} {cs:Array Value} {t:TypeId} (hb:W.heap[b]? = some (.cells cs t (0,0))) (ht:t≠64) (j:Nat) (u:Value):Mine (W.setCell ⟨b,j,none⟩ u) base a n c m:=by
 obtain ⟨xs,hn,ho,r⟩:=h
 refine ⟨xs,hn,?_,r⟩
 rcases ho with ho|⟨g,cap,cur,e,hg,hh,q⟩
 ·exact Or.inl ho
 ·have hne:g≠b:=by
   rintro rfl
   rw [hh] at hb
   injection hb with hb
   injection hb with _ hb
   exact ht hb.symm
  exact Or.inr ⟨g,cap,cur,e,hg,by rw [heap_setCell_other W _ g u hne]; exact hh,q⟩
inductive Ev where
 | ld (a:Addr) (v:Value)
 | st (a:Addr) (v:Value)
 | nw (o:Obj)
def script {α:Type} (P:Program) (r:Nat):Sem α→List Value→Option (α×List Ev)
 | .pure a,[]=>some (a,[])
 | .load _ a k,v :: vs=>match script P r (k v) vs with
  | some (x,es)=>some (x,.ld a v :: es)
  | none=>none
 | .store _ a v k,vs=>match script P r k vs with
  | some (x,es)=>some (x,.st a v :: es)
  | none=>none
 | .new o k,vs=>match script P r (k r) vs with
  | some (x,es)=>some (x,.nw o :: es)
  | none=>none
 | .program k,vs=>script P r (k P) vs
 | .mark _ k,vs=>script P r k vs
 | _,_=>none
def evs:List Ev→World→World
 | [],W=>W
 | .ld _ _ :: es,W=>evs es W
 | .st a v :: es,W=>evs es (W.setCell a v)
 | .nw o :: es,W=>evs es (W.alloc o)
def EvsOk (r:Nat):List Ev→World→Prop
 | [],_=>True
 | .ld a v :: es,W=>W.cell? a = some v∧EvsOk r es W
 | .st a v :: es,W=>(∃ u,W.cell? a = some u)∧W.frozen? a = false∧v.oneCell' = true∧EvsOk r es (W.setCell a v)
 | .nw o :: es,W=>W.heap.size = r∧EvsOk r es (W.alloc o)
theorem script_run {α:Type} (P:Program) (r:Nat) (s:Sem α):∀ (vs:List Value) (x:α) (es:List Ev) (W:World),script P r s vs = some (x,es)→EvsOk r es W→s.run P W = .ok x (evs es W):=by
 induction s with
 | pure a=>
  intro vs x es W h _
  cases vs with
  | nil=>simp only [script,Option.some.injEq,Prod.mk.injEq] at h; obtain ⟨rfl,rfl⟩:=h; rfl
  | cons=>simp [script] at h
 | load m a k ih=>
  intro vs x es W h hok
  cases vs with
  | nil=>simp [script] at h
  | cons v vs=>
   simp only [script] at h
   split at h
   ·rename_i x' es' h'
    simp only [Option.some.injEq,Prod.mk.injEq] at h
    obtain ⟨rfl,rfl⟩:=h
    have:=ih v vs _ _ W h' hok.2
    simp only [Sem.run,hok.1,evs]
    exact this
   ·cases h
 | store m a v k ih=>
  intro vs x es W h hok
  simp only [script] at h
  split at h
  ·rename_i x' es' h'
   simp only [Option.some.injEq,Prod.mk.injEq] at h
   obtain ⟨rfl,rfl⟩:=h
   obtain ⟨⟨u,hu⟩,hz,ho,hr⟩:=hok
   have:=ih vs _ _ _ h' hr
   cases v <;> first
    | (simp [Value.oneCell'] at ho; done)
    | (simp only [Sem.run,hu,hz,evs]; exact this)
  ·cases h
 | new o k ih=>
  intro vs x es W h hok
  simp only [script] at h
  split at h
  ·rename_i x' es' h'
   simp only [Option.some.injEq,Prod.mk.injEq] at h
   obtain ⟨rfl,rfl⟩:=h
   have:=ih r vs _ _ _ h' hok.2
   simp only [Sem.run,evs]
   rw [hok.1]
   exact this
  ·cases h
 | program k ih=>intro vs x es W h hok; exact ih P vs x es W h hok
 | mark m k ih=>intro vs x es W h hok; exact ih vs x es W h hok
 | _=>intro vs x es W h _; cases vs <;> simp [script] at h
structure Sta (f:World→Prop):Prop where
 kept:∀ W W',Below W.heap.size W W'→f W→f W'
 put:∀ (W:World) (b:Nat) (cs:Array Value) (t:TypeId) (j:Nat) (u:Value),W.heap[b]? = some (.cells cs t (0,0))→t≠64→NoLimb cs.toList→f W→f (W.setCell ⟨b,j,none⟩ u)
structure Pq where
 A:Option Addr
 N:Nat
 C:Nat
 A':Option Addr
 N':Nat
 C':Nat
 B:Bool
 M:Nat
 Z:Int
 A2:Option Addr
 N2:Nat
 C2:Nat
 A3:Option Addr
 N3:Nat
 C3:Nat
 A4:Option Addr
 N4:Nat
 C4:Nat
abbrev Pqs:=Nat→Pq
def Pqs.set (p:Pqs) (c:Nat) (q:Pq):Pqs:=fun i=>if i = c then q else p i
def pq0:Pq:=⟨none,0,0,none,0,0,false,0,0,none,0,0,none,0,0,none,0,0⟩
structure Cf where
 f:Pq→Value
 g:Pq→World→Prop
 st:∀ q,Sta (g q)
inductive Spo where
 | v (s:Nat) (x:Value)
 | l (s:Nat) (x:Value) (j off:Nat)
 | p (j off:Nat) (xs:List Value)
 | n (s:Nat) (cs:Array Value) (t:TypeId)
 | c (s:Option Nat) (f:Cf)
 | u (s:Nat) (x:Value) (h:Array Value→Value)
 | g (s:Nat) (x:Value) (vs:List Value) (es:List Ev)
 | k (s:Option Nat)
 | w (s:Option Nat) (j off:Nat) (xs:List Value) (h:Pq→List Value) (f:Cf)
def nv (b t:Nat):Value:=match Nat.blt t 1000000 with
 | true=>.pointer (some ⟨b,0,none⟩)
 | false=>.slice (some ⟨b,0,none⟩) (t / 1000000) (t / 1000000)
def Spo.put (p:Pqs) (i:Nat):Spo→Option (Nat×Value)
 | .v s x=>some (s,x)
 | .l s x _ _=>some (s,x)
 | .p _ _ _=>none
 | .n s _ t=>some (s,nv (p i).N t)
 | .c s f=>s.map fun s=>(s,f.f (p i))
 | .u s x _=>some (s,x)
 | .g s x _ _=>some (s,x)
 | .k s=>s.map fun s=>(s,undef)
 | .w s _ _ _ _ f=>s.map fun s=>(s,f.f (p i))
def puts (p:Pqs):Nat→List Spo→Puts
 | _,[]=>[]
 | i,x :: r=>x.put p i :: puts p (i+1) r
def Spo.bare:Spo→Spo
 | .v s _=>.v s undef
 | .l s _ j off=>.l s undef j off
 | .u s _ h=>.u s undef h
 | .g s _ _ _=>.g s undef [] []
 | .p j off xs=>.p j off (xs.map fun _=>undef)
 | .w s j off xs h f=>.w s j off (xs.map fun _=>undef) h f
 | x=>x
theorem puts_len (p:Pqs):∀ (S:List Spo) (i:Nat),(puts p i S).length = S.length
 | [],_=>rfl
 | _ :: r,i=>by simp [puts,puts_len p r (i+1)]
theorem puts_at (p:Pqs):∀ (S:List Spo) (i k:Nat),(puts p i S)[k]? = (S[k]?).map (fun x=>x.put p (i+k))
 | [],_,_=>rfl
 | x :: r,i,0=>rfl
 | x :: r,i,k+1=>by
  have:=puts_at p r (i+1) k
  simp only [puts,List.getElem?_cons_succ,this]
  rw [show i+1+k = i+(k+1) from by omega]
abbrev Ks:=List (Nat×Value)
def lookK:Ks→Nat→Value
 | [],_=>undef
 | (s',v) :: r,s=>match s' == s with
  | true=>v
  | false=>lookK r s
def inK:Ks→Nat→Bool
 | [],_=>false
 | (s',_) :: r,s=>s' == s || inK r s
structure Kn (T:Array Value) (n:Nat) (L:Ks):Prop where
 size:T.size = n
 at_:∀ x,x∈L→T[x.1]? = some x.2
theorem Kn.look {T:Array Value} {n s:Nat}:∀ {L:Ks},Kn T n L→inK L s = true→T[s]? = some (lookK L s)
 | [],_,h=>by simp [inK] at h
 | (s',v) :: r,hK,h=>by
  simp only [inK,Bool.or_eq_true] at h
  cases hb:s' == s with
  | true=>
   simp only [lookK,hb]
   have:=hK.at_ (s',v) (List.mem_cons_self ..)
   rw [beq_iff_eq] at hb
   rw [← hb]; exact this
  | false=>
   rw [hb] at h
   simp only [lookK,hb]
   exact Kn.look ⟨hK.size,fun x hx=>hK.at_ x (List.mem_cons_of_mem _ hx)⟩ (by simpa using h)
def slotAt (L:Ks) (s:Nat):Nat→Puts→Value
 | 0,_=>lookK L s
 | _+1,[]=>lookK L s
 | i+1,some (s',v) :: r=>match s' == s with
  | true=>v
  | false=>slotAt L s i r
 | i+1,none :: r=>slotAt L s i r
def earlyB (s:Nat):Nat→Puts→Bool
 | 0,_=>false
 | _+1,[]=>false
 | i+1,some (s',_) :: r=>s' == s || earlyB s i r
 | i+1,none :: r=>earlyB s i r
theorem early_of {s:Nat}:∀ {ds:Puts} {i:Nat},earlyB s i ds = true→∃ (k:Nat) (v:Value),k < i∧ds[k]? = some (some (s,v))
 | _,0,h=>by simp [earlyB] at h
 | [],_+1,h=>by simp [earlyB] at h
 | none :: r,i+1,h=>by
  obtain ⟨k,v,h1,h2⟩:=early_of (ds:=r) h
  exact ⟨k+1,v,by omega,by simpa using h2⟩
 | some (s',v') :: r,i+1,h=>by
  simp only [earlyB,Bool.or_eq_true,beq_iff_eq] at h
  rcases h with rfl|h
  ·exact ⟨0,v',by omega,rfl⟩
  ·obtain ⟨k,v,h1,h2⟩:=early_of (ds:=r) h
   exact ⟨k+1,v,by omega,by simpa using h2⟩
def envAt (L:Ks) (ds:Puts) (i:Nat):Operand→Value
 | .tmp s=>slotAt L s i ds
 | .const v=>v
 | .global g=>.pointer (some ⟨g,0,none⟩)
 | .func f=>.func (.func f) #[] #[]
def edgeB (o:Oper) (j:Nat):Bool:=o.after.toList.any fun e=>Region.binds .any e && e.on == j
def isSel:Op→Bool
 | .select _ _=>true
 | _=>false
def readOk (ops:Array Oper) (i:Nat) (o:Oper) (s:Nat):Nat→Puts→Bool
 | _,[]=>true
 | j,some (s',_) :: r=>(s' != s || (match Nat.blt j i with
   | true=>edgeB o j
   | false=>(match Nat.beq j i with
    | true=>true
    | false=>(match ops[j]? with
     | some o'=>edgeB o' i
     | none=>false)))) && readOk ops i o s (j+1) r
 | j,none :: r=>readOk ops i o s (j+1) r
def readsOk (ops:Array Oper) (L:Ks) (ds:Puts):Nat→List Oper→Bool
 | _,[]=>true
 | i,o :: r=>(o.looksAt ops).all (fun s=>readOk ops i o s 0 ds && (earlyB s i ds || inK L s)) && !isSel o.op && readsOk ops L ds (i+1) r
theorem edge_of {o:Oper} {j:Nat} (h:edgeB o j = true):∃ e,e∈o.after∧Region.binds .any e = true∧e.on = j:=by
 obtain ⟨e,he,h⟩:=List.any_eq_true.1 h
 simp only [Bool.and_eq_true,beq_iff_eq] at h
 exact ⟨e,by simpa using he,h.1,h.2⟩
theorem readOk_at {ops:Array Oper} {i s:Nat} {o:Oper}:∀ (ds:Puts) (j0 k:Nat) (v:Value),readOk ops i o s j0 ds = true→ds[k]? = some (some (s,v))→(j0+k < i∧edgeB o (j0+k) = true)∨j0+k = i∨(i < j0+k∧∃ o',ops[j0+k]? = some o'∧edgeB o' i = true)
 | [],_,_,_,_,hk=>by simp at hk
 | d :: r,j0,0,v,h,hk=>by
  simp only [List.getElem?_cons_zero,Option.some.injEq] at hk
  subst hk
  simp only [readOk,Bool.and_eq_true,bne_self_eq_false,Bool.false_or] at h
  have h1:=h.1
  rw [Nat.add_zero]
  split at h1
  ·rename_i hb; exact Or.inl ⟨by simpa [Nat.blt_eq] using hb,h1⟩
  ·rename_i hb
   have hb':¬ j0 < i:=by intro hc; rw [show Nat.blt j0 i = true from by simpa [Nat.blt_eq] using hc] at hb; cases hb
   split at h1
   ·rename_i he; exact Or.inr (Or.inl (Nat.eq_of_beq_eq_true he))
   ·rename_i he
    have he':j0≠i:=by rintro rfl; rw [Nat.beq_refl] at he; cases he
    split at h1
    ·rename_i o' ho; exact Or.inr (Or.inr ⟨by omega,o',ho,h1⟩)
    ·cases h1
 | d :: r,j0,k+1,v,h,hk=>by
  have hr:readOk ops i o s (j0+1) r = true:=by
   cases d with
   | none=>exact h
   | some d=>simp only [readOk,Bool.and_eq_true] at h; exact h.2
  have:=readOk_at r (j0+1) k v hr (by simpa using hk)
  rw [show j0+(k+1) = j0+1+k from by omega]
  exact this
theorem readsOk_at {ops:Array Oper} {K:Ks} {ds:Puts}:∀ (L:List Oper) (i0 k:Nat) (o:Oper),readsOk ops K ds i0 L = true→L[k]? = some o→(∀ s,s∈o.looksAt ops→readOk ops (i0+k) o s 0 ds = true∧(earlyB s (i0+k) ds = true∨inK K s = true))∧isSel o.op = false
 | [],_,_,_,_,hk=>by simp at hk
 | o' :: r,i0,0,o,h,hk=>by
  simp only [List.getElem?_cons_zero,Option.some.injEq] at hk
  subst hk
  simp only [readsOk,Bool.and_eq_true,List.all_eq_true,Bool.not_eq_true',Bool.or_eq_true] at h
  exact ⟨fun s hs=>h.1.1 s hs,h.1.2⟩
 | o' :: r,i0,k+1,o,h,hk=>by
  simp only [readsOk,Bool.and_eq_true] at h
  have:=readsOk_at r (i0+1) k o h.2 (by simpa using hk)
  rw [show i0+(k+1) = i0+1+k from by omega]
  exact this
theorem slotAt_on {L:Ks} {s:Nat}:∀ (ds:Puts) (i k:Nat) (v:Value),Puts.apart ds = true→ds[k]? = some (some (s,v))→k < i→slotAt L s i ds = v
 | _,0,_,_,_,_,h=>absurd h (Nat.not_lt_zero _)
 | [],_+1,_,_,_,hk,_=>by simp at hk
 | d :: r,i+1,0,v,_,hk,_=>by
  simp only [List.getElem?_cons_zero,Option.some.injEq] at hk
  subst hk
  simp [slotAt]
 | d :: r,i+1,k+1,v,ha,hk,h=>by
  have hk':r[k]? = some (some (s,v)):=by simpa using hk
  cases d with
  | none=>exact slotAt_on r i k v ha hk' (by omega)
  | some d=>
   obtain ⟨s',v'⟩:=d
   simp only [Puts.apart,Bool.and_eq_true] at ha
   have hne:(s' == s) = false:=by
    have:=Puts.free_of ha.1 hk'
    simp; exact fun e=>this e.symm
   simp only [slotAt,hne]
   exact slotAt_on r i k v ha.2 hk' (by omega)
theorem slotAt_off {L:Ks} {s:Nat}:∀ (ds:Puts) (i:Nat),(∀ (k:Nat) (v:Value),ds[k]? = some (some (s,v))→i≤k)→slotAt L s i ds = lookK L s
 | _,0,_=>by simp [slotAt]
 | [],_+1,_=>rfl
 | none :: r,i+1,h=>slotAt_off r i (fun k v hk=>by have:=h (k+1) v (by simpa using hk); omega)
 | some (s',v') :: r,i+1,h=>by
  have hne:(s' == s) = false:=by
   cases hb:s' == s with
   | false=>rfl
   | true=>have:=h 0 v' (by simp at hb ⊢; exact hb); omega
  simp only [slotAt,hne]
  exact slotAt_off r i (fun k v hk=>by have:=h (k+1) v (by simpa using hk); omega)
theorem det_slot {ops:Array Oper} {L:Ks} {n:Nat} {ds:Puts} {T0:Array Value} {l:Array Bool} {t:Array Value} {i:Nat} {o:Oper} (hK:Kn T0 n L) (hD:Det ops ds T0 l t) (ha:Puts.apart ds = true) (hr:readsOk ops L ds 0 ops.toList = true) (hi:i∈Region.ready .any ops l) (hl:l[i]? = some false) (ho:ops[i]? = some o) (s:Nat) (hs:s∈o.looksAt ops) :
  t[s]? = some (slotAt L s i ds):=by
 obtain ⟨hro,hin⟩:=(readsOk_at ops.toList 0 i o hr (by simpa using ho)).1 s hs
 rw [Nat.zero_add] at hro hin
 by_cases hw:∃ (k:Nat) (v:Value),ds[k]? = some (some (s,v))
 ·obtain ⟨k,v,hk⟩:=hw
  have h3:=readOk_at ds 0 k v hro hk
  rw [Nat.zero_add] at h3
  rcases h3 with ⟨hlt,he⟩|h3
  ·obtain ⟨e,hem,hb,hon⟩:=edge_of he
   obtain ⟨o',ho',hd⟩:=(mem_ready.1 hi).2
   rw [ho] at ho'; cases ho'
   have:=hD.on k s v hk (by have:=getD_true (hd e hem hb); rw [hon] at this; exact this)
   rw [slotAt_on ds i _ v ha hk hlt,this]
  ·have hnd:l[k]?≠some true:=by
    rcases h3 with rfl|⟨hlt,o',ho',he⟩
    ·rw [hl]; simp
    ·obtain ⟨e,he,hb,hon⟩:=edge_of he
     intro hc
     have:=getD_true (hD.shut k o' hc ho' e he hb)
     rw [hon,hl] at this; cases this
   have hle:i≤k:=by rcases h3 with rfl|⟨h,-⟩ <;> omega
   have hnk:inK L s = true:=by
    rcases hin with h|h
    ·obtain ⟨k',v',h1,h2⟩:=early_of h
     obtain rfl:=Puts.one ha h2 hk; omega
    ·exact h
   rw [slotAt_off ds i (fun k' v' hk'=>by obtain rfl:=Puts.one ha hk' hk; exact hle),hD.off s (fun k' v' hk'=>by obtain rfl:=Puts.one ha hk' hk; exact hnd)]
   exact hK.look hnk
 ·have hnk:inK L s = true:=by
   rcases hin with h|h
   ·obtain ⟨k',v',h1,h2⟩:=early_of h
    exact absurd ⟨k',v',h2⟩ hw
   ·exact h
  rw [slotAt_off ds i (fun k v hk=>absurd ⟨k,v,hk⟩ hw),hD.off s (fun k v hk=>absurd ⟨k,v,hk⟩ hw)]
  exact hK.look hnk
def wantAt (ops:Array Oper) (L:Ks) (ds:Puts) (i:Nat) (o:Oper):Bool:=match o.guard with
 | none=>true
 | some (g,b)=>match (ops[g]?).bind (·.dst) with
  | none=>false
  | some s=>match slotAt L s i ds with
   | .bool c=>c == b
   | _=>false
def opRun (P:Program) (ops:Array Oper) (L:Ks) (ds:Puts) (i r:Nat) (vs:List Value):Option (Option Nat×Bool×Option (Next×List Ev)):=match ops[i]? with
 | none=>none
 | some o=>some (o.dst,wantAt ops L ds i o,script P r (execOp (envAt L ds i) o) vs)
theorem opRun_at {P:Program} {ops:Array Oper} {L:Ks} {n:Nat} {ds:Puts} {T0:Array Value} {l:Array Bool} {t:Array Value} {i r:Nat} {vs:List Value} {d:Option Nat} {b:Bool} {x:Option (Next×List Ev)} (hK:Kn T0 n L) (hD:Det ops ds T0 l t) (ha:Puts.apart ds = true) (hr:readsOk ops L ds 0 ops.toList = true) (hi:i∈Region.ready .any ops l) (hl:l[i]? = some false) (h:opRun P ops L ds i r vs = some (d,b,x)) :
  ∃ o,ops[i]? = some o∧o.dst = d∧Region.wanted o (yielded ops t) = b∧script P r (execOp (Act.eval ⟨t,[]⟩) o) vs = x:=by
 unfold opRun at h
 split at h
 ·cases h
 ·rename_i o ho
  simp only [Option.some.injEq,Prod.mk.injEq] at h
  obtain ⟨h1,h2,h3⟩:=h
  have hs:=fun s hsm=>det_slot hK hD ha hr hi hl ho s hsm
  refine ⟨o,ho,h1,?_,?_⟩
  ·rw [← h2]
   unfold Region.wanted wantAt
   cases hg:o.guard with
   | none=>rfl
   | some gb=>
    obtain ⟨g,b'⟩:=gb
    simp only
    unfold yielded
    cases hd:(ops[g]?).bind (·.dst) with
    | none=>simp
    | some s=>
     have:=hs s (by simp [Oper.looksAt,hg,hd])
     simp only [Option.bind_some]
     rw [this]
     cases slotAt L s i ds <;> simp
  ·rw [← h3]
   congr 1
   refine execOp_congr o (fun cs b' e=>?_) (fun x hx=>?_)
   ·have:=(readsOk_at ops.toList 0 i o hr (by simpa using ho)).2
    rw [e] at this; cases this
   ·cases x with
    | tmp s=>
     show t.getD s undef = slotAt L s i ds
     rw [Array.getD_eq_getD_getElem?,hs s (List.mem_append_left _ (List.mem_filterMap.2 ⟨.tmp s,by simpa using hx,rfl⟩))]
     rfl
    | _=>rfl
structure Bx where
 b:Nat
 cs:Array Value
 t:TypeId
 my:Bool
def boxOf (E:List Bx) (S:List Spo) (p:Pqs) (j:Nat):Option (Bx×Option Nat):=match Nat.blt j 1000 with
 | true=>(E[j]?).map fun x=>(x,none)
 | false=>match S[j - 1000]? with
  | some (.n _ cs t)=>some (⟨(p (j - 1000)).N,cs,t % 1000000,true⟩,some (j - 1000))
  | _=>none
def setL:Array Value→Nat→List Value→Array Value
 | cs,_,[]=>cs
 | cs,k,x :: r=>setL (cs.setIfInBounds k x) (k+1) r
def Spo.sto:Spo→Option (Nat×Nat×List Value)
 | .p j off xs=>some (j,off,xs)
 | .w _ j off xs _ _=>some (j,off,xs)
 | _=>none
def cellsOf (f:Nat→Bool) (j:Nat):Nat→List Spo→Array Value→Array Value
 | _,[],cs=>cs
 | i,x :: r,cs=>cellsOf f j (i+1) r (match x.sto with
  | some (j',off,xs)=>(match f i && Nat.beq j' j with
   | true=>setL cs off xs
   | false=>cs)
  | none=>cs)
def reach (ops:Array Oper):Nat→Nat→Nat→Bool
 | 0,_,_=>false
 | f+1,i,j=>match ops[i]? with
  | none=>false
  | some o=>edgeB o j || o.after.toList.any fun e=>Region.binds .any e && reach ops f e.on j
theorem reach_done {ops:Array Oper} {ds:Puts} {T0:Array Value} {l:Array Bool} {t:Array Value} (hD:Det ops ds T0 l t):∀ (f i j:Nat),reach ops f i j = true→l[i]? = some true→l[j]? = some true
 | 0,_,_,h,_=>by simp [reach] at h
 | f+1,i,j,h,hl=>by
  unfold reach at h
  split at h
  ·cases h
  ·rename_i o ho
   rw [Bool.or_eq_true] at h
   rcases h with h|h
   ·obtain ⟨e,he,hb,rfl⟩:=edge_of h
    exact getD_true (hD.shut i o hl ho e he hb)
   ·obtain ⟨e,he,h⟩:=List.any_eq_true.1 h
    simp only [Bool.and_eq_true] at h
    exact reach_done hD f e.on j h.2 (getD_true (hD.shut i o hl ho e (by simpa using he) h.1))
theorem reach_ready {ops:Array Oper} {ds:Puts} {T0:Array Value} {l:Array Bool} {t:Array Value} (hD:Det ops ds T0 l t) {f i j:Nat} (h:reach ops f i j = true) (hi:i∈Region.ready .any ops l):l[j]? = some true:=by
 cases f with
 | zero=>simp [reach] at h
 | succ f=>
  obtain ⟨o,ho,hd⟩:=(mem_ready.1 hi).2
  unfold reach at h
  rw [ho] at h
  simp only [Bool.or_eq_true] at h
  rcases h with h|h
  ·obtain ⟨e,he,hb,rfl⟩:=edge_of h
   exact getD_true (hd e he hb)
  ·obtain ⟨e,he,h⟩:=List.any_eq_true.1 h
   simp only [Bool.and_eq_true] at h
   exact reach_done hD f e.on j h.2 (getD_true (hd e (by simpa using he) h.1))
def touchOk (ops:Array Oper) (i j:Nat):Nat→List Spo→Bool
 | _,[]=>true
 | i',x :: r=>(match x.sto with
   | some (j',_,_)=>(j' != j || (match Nat.beq i' i with
    | true=>true
    | false=>(match Nat.blt i' i with
     | true=>reach ops 4 i i'
     | false=>reach ops 4 i' i)))
   | none=>true) && touchOk ops i j (i'+1) r
def stoOk (ops:Array Oper) (E:List Bx) (S0:List Spo) (i j:Nat) (xs:List Value):Bool:=touchOk ops i j 0 S0 && (match Nat.blt j 1000 with
   | true=>(match E[j]? with
    | some x=>x.my
    | none=>false)
   | false=>reach ops 4 i (j - 1000) && (match S0[j - 1000]? with
    | some (.n _ cs t)=>noLimb cs.toList && t % 1000000 != 64
    | _=>false)) && noLimb xs && xs.all (·.oneCell')
def memOk (ops:Array Oper) (E:List Bx) (S0:List Spo):Nat→List Spo→Bool
 | _,[]=>true
 | i,.l _ _ j _ :: r=>touchOk ops i j 0 S0 && (Nat.blt j 1000 || reach ops 4 i (j - 1000)) && memOk ops E S0 (i+1) r
 | i,.p j _ xs :: r=>stoOk ops E S0 i j xs && memOk ops E S0 (i+1) r
 | i,.w _ j _ xs _ _ :: r=>stoOk ops E S0 i j xs && memOk ops E S0 (i+1) r
 | i,_ :: r=>memOk ops E S0 (i+1) r
theorem touchOk_at {ops:Array Oper} {i j:Nat}:∀ (S:List Spo) (i0 k off:Nat) (xs:List Value),touchOk ops i j i0 S = true→(S[k]?).bind Spo.sto = some (j,off,xs)→i0+k = i∨(i0+k < i∧reach ops 4 i (i0+k) = true)∨(i < i0+k∧reach ops 4 (i0+k) i = true)
 | [],_,_,_,_,_,hk=>by simp at hk
 | x :: r,i0,0,off,xs,h,hk=>by
  simp only [List.getElem?_cons_zero,Option.bind_some] at hk
  simp only [touchOk,hk,Bool.and_eq_true,bne_self_eq_false,Bool.false_or] at h
  have h1:=h.1
  rw [Nat.add_zero]
  split at h1
  ·rename_i he; exact Or.inl (Nat.eq_of_beq_eq_true he)
  ·rename_i he
   have he':i0≠i:=by rintro rfl; rw [Nat.beq_refl] at he; cases he
   split at h1
   ·rename_i hb; exact Or.inr (Or.inl ⟨by simpa [Nat.blt_eq] using hb,h1⟩)
   ·rename_i hb
    have hb':¬ i0 < i:=by intro hc; rw [show Nat.blt i0 i = true from by simpa [Nat.blt_eq] using hc] at hb; cases hb
    exact Or.inr (Or.inr ⟨by omega,h1⟩)
 | x :: r,i0,k+1,off,xs,h,hk=>by
  have hr:touchOk ops i j (i0+1) r = true:=by
   unfold touchOk at h; exact (Bool.and_eq_true_iff.1 h).2
  have:=touchOk_at r (i0+1) k off xs hr (by simpa using hk)
  rw [show i0+(k+1) = i0+1+k from by omega]
  exact this
theorem memOk_at {ops:Array Oper} {E:List Bx} {S0:List Spo}:∀ (S:List Spo) (i0 k:Nat),memOk ops E S0 i0 S = true→memOk ops E S0 (i0+k) (S.drop k) = true
 | [],_,_,_=>by simp [memOk]
 | x :: r,i0,0,h=>h
 | x :: r,i0,k+1,h=>by
  have hr:memOk ops E S0 (i0+1) r = true:=by
   cases x <;> first|exact h|(simp only [memOk,Bool.and_eq_true] at h; exact h.2)
  have:=memOk_at r (i0+1) k hr
  rw [show i0+(k+1) = i0+1+k from by omega]
  exact this
theorem memOk_sto {ops:Array Oper} {E:List Bx} {S0:List Spo} {i j off:Nat} {x:Spo} {r:List Spo} {xs:List Value} (h:memOk ops E S0 i (x :: r) = true) (hx:x.sto = some (j,off,xs)):stoOk ops E S0 i j xs = true:=by
 cases x <;> simp only [Spo.sto,Option.some.injEq,Prod.mk.injEq,reduceCtorEq] at hx
 ·obtain ⟨rfl,rfl,rfl⟩:=hx
  simp only [memOk,Bool.and_eq_true] at h; exact h.1
 ·obtain ⟨rfl,rfl,rfl⟩:=hx
  simp only [memOk,Bool.and_eq_true] at h; exact h.1
theorem cellsOf_agree {f g:Nat→Bool} {j:Nat}:∀ (S:List Spo) (i0:Nat) (cs:Array Value),(∀ (k off:Nat) (xs:List Value),(S[k]?).bind Spo.sto = some (j,off,xs)→f (i0+k) = g (i0+k))→cellsOf f j i0 S cs = cellsOf g j i0 S cs
 | [],_,_,_=>rfl
 | x :: r,i0,cs,h=>by
  have hr:∀ cs,cellsOf f j (i0+1) r cs = cellsOf g j (i0+1) r cs:=fun cs=>cellsOf_agree r (i0+1) cs (fun k off xs hk=>by
   have:=h (k+1) off xs (by simpa using hk)
   rw [show i0+1+k = i0+(k+1) from by omega]; exact this)
  cases hx:x.sto with
  | none=>simp only [cellsOf,hx]; exact hr _
  | some q=>
   obtain ⟨j',off,xs⟩:=q
   simp only [cellsOf,hx]
   cases hb:Nat.beq j' j with
   | true=>
    obtain rfl:=Nat.eq_of_beq_eq_true hb
    have:=h 0 off xs (by simpa using hx)
    rw [Nat.add_zero] at this
    rw [this]; exact hr _
   | false=>simp only [Bool.and_false]; exact hr _
theorem cellsOf_none {f:Nat→Bool} {j:Nat}:∀ (S:List Spo) (i0:Nat) (cs:Array Value),(∀ (k off:Nat) (xs:List Value),(S[k]?).bind Spo.sto = some (j,off,xs)→f (i0+k) = false)→cellsOf f j i0 S cs = cs
 | [],_,_,_=>rfl
 | x :: r,i0,cs,h=>by
  have hr:cellsOf f j (i0+1) r cs = cs:=cellsOf_none r (i0+1) cs (fun k off xs hk=>by
   have:=h (k+1) off xs (by simpa using hk)
   rw [show i0+1+k = i0+(k+1) from by omega]; exact this)
  cases hx:x.sto with
  | none=>simp only [cellsOf,hx]; exact hr
  | some q=>
   obtain ⟨j',off,xs⟩:=q
   simp only [cellsOf,hx]
   cases hb:Nat.beq j' j with
   | true=>
    obtain rfl:=Nat.eq_of_beq_eq_true hb
    have:=h 0 off xs (by simpa using hx)
    rw [Nat.add_zero] at this
    rw [this]; exact hr
   | false=>simp only [Bool.and_false]; exact hr
theorem cellsOf_put {f:Nat→Bool} {j:Nat}:∀ (S:List Spo) (i0 k:Nat) (off:Nat) (xs:List Value) (cs:Array Value),(S[k]?).bind Spo.sto = some (j,off,xs)→f (i0+k) = false→(∀ (k' off':Nat) (xs':List Value),(S[k']?).bind Spo.sto = some (j,off',xs')→k < k'→f (i0+k') = false) →
  cellsOf (fun m=>f m || Nat.beq m (i0+k)) j i0 S cs = setL (cellsOf f j i0 S cs) off xs
 | [],_,_,_,_,_,hk,_,_=>by simp at hk
 | x :: r,i0,0,off,xs,cs,hk,h0,h=>by
  simp only [List.getElem?_cons_zero,Option.bind_some] at hk
  rw [Nat.add_zero] at h0 ⊢
  simp only [cellsOf,hk,h0,Nat.beq_refl,Bool.false_or,Bool.true_and,Bool.false_and]
  rw [cellsOf_none r (i0+1) (setL cs off xs) (fun k off' xs' hk=>by
    have:=h (k+1) off' xs' (by simpa using hk) (by omega)
    rw [show i0+(k+1) = i0+1+k from by omega] at this
    rw [this,Bool.false_or]
    cases hb:Nat.beq (i0+1+k) i0 with
    | false=>rfl
    | true=>have:=Nat.eq_of_beq_eq_true hb; omega),
   cellsOf_none r (i0+1) cs (fun k off' xs' hk=>by
    have:=h (k+1) off' xs' (by simpa using hk) (by omega)
    rw [show i0+(k+1) = i0+1+k from by omega] at this
    exact this)]
 | x :: r,i0,k+1,off,xs,cs,hk,h0,h=>by
  have hr:∀ cs,cellsOf (fun m=>f m || Nat.beq m (i0+(k+1))) j (i0+1) r cs = setL (cellsOf f j (i0+1) r cs) off xs:=fun cs=>by
   have e:i0+(k+1) = i0+1+k:=by omega
   rw [e] at h0 ⊢
   exact cellsOf_put r (i0+1) k off xs cs (by simpa using hk) h0 (fun k' off' xs' hk' hlt=>by
    have:=h (k'+1) off' xs' (by simpa using hk') (by omega)
    rw [show i0+(k'+1) = i0+1+k' from by omega] at this
    exact this)
  have hb0:Nat.beq i0 (i0+(k+1)) = false:=by
   cases hb:Nat.beq i0 (i0+(k+1)) with
   | false=>rfl
   | true=>have:=Nat.eq_of_beq_eq_true hb; omega
  simp only [cellsOf,hb0,Bool.or_false]
  exact hr _
end Go.Proofs.YtpmmapoabbpaiaaGreat
