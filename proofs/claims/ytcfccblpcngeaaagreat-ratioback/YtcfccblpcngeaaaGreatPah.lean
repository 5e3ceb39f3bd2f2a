/- Of what RatioBackRow stands on: FmBase ShiftDown FmMath FmLeaf FmTake FmSplit FmFits FmCall FmJoin AddInto TakeInto Clone DivLimb TakeTimes Pick PickV. -/
import Derived.Test.YtcfccblpcngeaaaGreatProg
import Derived.WalkKit
import Derived.WalkSpells
import Derived.WalkLawsBesides
import Derived.Test.YtcfccblpcngeaaaGreatPag
import Derived.Test.YtcfccblpcngeaaaGreatPab
import Derived.OwnWalk
import Derived.Test.YtcfccblpcngeaaaGreatPaa
namespace Go.Proofs.YtcfccblpcngeaaaGreat
open Go.RowKit
set_option maxHeartbeats 400000
structure Fs (w0 W:World) (bs:List En):Prop where
 bx:∀ x,x∈bs→W.heap[x.b]? = some (.cells x.cs x.t (0,0))
 fr:Below w0.heap.size w0 W
theorem Fs.size {w0 W:World} {bs:List En} (h:Fs w0 W bs):w0.heap.size≤W.heap.size:=h.fr.size
theorem Fs.begin (w:World):Fs w w []:=⟨(fun _ h=>nomatch h),Below.refl _ _⟩
theorem Fs.kept {w0 W W':World} {bs:List En} (h:Fs w0 W bs) (hb:Below W.heap.size W W'):Fs w0 W' bs:=
 ⟨fun x hx=>by rw [hb.block _ (block_lt (h.bx x hx))]; exact h.bx x hx,gr_trans h.fr hb⟩
theorem Fs.lt {w0 W:World} {bs:List En} (h:Fs w0 W bs) (i:Nat) {x:En} (e:bs[i]? = some x):x.b < W.heap.size:=block_lt (h.bx x (List.mem_of_getElem? e))
theorem Fs.alloc {w0 W:World} {bs:List En} (h:Fs w0 W bs) (cs:Array Value) (t:TypeId):Fs w0 (W.alloc (.cells cs t)) (⟨W.heap.size,cs,t⟩ :: bs):=by
 have h':=h.kept (gr_alloc W (.cells cs t))
 refine ⟨fun x hx=>?_,h'.fr⟩
 rcases List.mem_cons.1 hx with rfl|hx
 ·exact heap_alloc_new W _
 ·exact h'.bx x hx
theorem Fs.drew {w0 W:World} {bs:List En} (h:Fs w0 W bs):Fs w0 W.drew bs:=⟨h.bx,h.fr.drew⟩
theorem Fs.sub {w0 W:World} {bs bs':List En} (h:Fs w0 W bs) (hs:∀ x,x∈bs'→x∈bs):Fs w0 W bs':=⟨fun x hx=>h.bx x (hs x hx),h.fr⟩
theorem Fs.cellAt {w0 W:World} {bs:List En} (h:Fs w0 W bs) {b:Nat} {cs:Array Value} {t:TypeId} (hx:(⟨b,cs,t⟩:En)∈bs) (j:Nat) (v:Value) (hv:cs[j]? = some v):W.cell? ⟨b,j,none⟩ = some v:=by
 rw [cell_of_row W b j _ _ _ (h.bx _ hx)]; exact hv
theorem Fs.frozen {w0 W:World} {bs:List En} (h:Fs w0 W bs) {b:Nat} {cs:Array Value} {t:TypeId} (hx:(⟨b,cs,t⟩:En)∈bs) (j:Nat):W.frozen? ⟨b,j,none⟩ = false:=frozen_of_row W b j _ _ (h.bx _ hx)
theorem Fs.put {w0 W:World} {bs:List En} (h:Fs w0 W bs) {b:Nat} {cs:Array Value} {t:TypeId} (hx:(⟨b,cs,t⟩:En)∈bs) (hw:w0.heap.size≤b) (j:Nat) (u:Value) (bs':List En)
  (hbs:∀ y,y∈bs'→y = ⟨b,cs.setIfInBounds j u,t⟩∨(y∈bs∧y.b≠b)):Fs w0 (W.setCell ⟨b,j,none⟩ u) bs':=by
 refine ⟨fun y hy=>?_,h.fr.setCell hw u⟩
 rcases hbs y hy with rfl|⟨hy,hne⟩
 ·exact heap_setCell_same W b j _ _ _ (h.bx _ hx)
 ·rw [heap_setCell_other W _ y.b u hne]; exact h.bx y hy
theorem Fs.one (w:World) (cs:Array Value) (t:TypeId):Fs w (w.alloc (.cells cs t)) [⟨w.heap.size,cs,t⟩]:=(Fs.begin w).alloc cs t
theorem Fs.two (w:World) (cs:Array Value) (t:TypeId) (ds:Array Value) (u:TypeId):Fs w ((w.alloc (.cells cs t)).alloc (.cells ds u)) [⟨w.heap.size,cs,t⟩,⟨w.heap.size+1,ds,u⟩]:=by
 have h:=((Fs.begin w).alloc cs t).alloc ds u
 rw [World.size_alloc] at h
 exact h.sub (by simp)
theorem Fs.cells {w0 W:World} {bs:List En} (h:Fs w0 W bs):Cel W bs:=cel_of bs h.bx
theorem act_eq {t:Array Value} {s:Nat} {u v:Value} (h:u = v):({ tmps:=t.setIfInBounds s u,defers:=[] }:Act) = ⟨putD (some (s,v)) t,[]⟩:=by rw [h]; rfl
theorem or_wrap (A x:Nat) (hx:x < 4294967296):Go.bits .or .u64 (IntKind.u64.wrap ((A:Int) * 4294967296)) (x:Int) = ((A % 4294967296 * 4294967296+x:Nat):Int):=by
 have e:IntKind.u64.wrap ((A:Int) * 4294967296) = ((A % 4294967296:Nat):Int) * 4294967296:=by rw [IntKind.wrap_u64]; omega
 rw [e,or_limb _ _ (by omega) hx]
 omega
theorem down_shr (t k pt:Nat) (h:k % 32 = pt):((t:Int) / 2 ^ (k % 32)) % 4294967296 = ((t / 2 ^ pt % 4294967296:Nat):Int):=by
 rw [h,Int.natCast_emod,Int.natCast_ediv,Int.natCast_pow]
 rfl
theorem down_step {V x h P Q:Nat} (hP:0 < P) (hPQ:4294967296 = P * Q) (hh:h = V % 4294967296) (hx:x < 4294967296):(h * 4294967296+x) / P % 4294967296+4294967296 * (V / P) = (x+4294967296 * V) / P:=by
 have hr:V % P < P:=Nat.mod_lt _ hP
 have hm:h % P = V % P:=by rw [hh,Nat.mod_mod_of_dvd V ⟨Q,hPQ⟩]
 have hv:=Nat.div_add_mod V P
 have hu:=Nat.div_add_mod h P
 rw [hm] at hu
 generalize V % P = r at *
 generalize V / P = v at *
 generalize h / P = u at *
 have hD:(x+4294967296 * r) / P < 4294967296:=by
  rw [Nat.div_lt_iff_lt_mul hP]
  have:4294967296 * (r+1)≤4294967296 * P:=Nat.mul_le_mul_left _ hr
  omega
 have e1:h * 4294967296+x = P * (u * 4294967296)+(x+4294967296 * r):=by
  rw [← hu,Nat.add_mul,Nat.mul_assoc]; omega
 have e2:x+4294967296 * V = P * (4294967296 * v)+(x+4294967296 * r):=by
  rw [← hv,Nat.mul_add,Nat.mul_left_comm]; omega
 rw [e1,e2,Nat.mul_add_div hP,Nat.mul_add_div hP,Nat.mul_comm u,Nat.mul_add_mod,Nat.mod_eq_of_lt hD]
 omega
theorem val_mod (ys:List Nat) (hw:Pl.Wf ys) (j:Nat):ys[j]?.getD 0 = Pl.val (ys.drop j) % 4294967296:=by
 by_cases h:j < ys.length
 ·have:=Pl.wf_at hw j
  rw [Pl.drop_cons ys j h]
  simp only [Pl.val]
  omega
 ·rw [List.drop_eq_nil_of_le (by omega),List.getElem?_eq_none (by omega)]; rfl
theorem set_rep' (j v:Nat) (qs:List Nat):(List.replicate (j+1) 0 ++ qs).set j v = List.replicate j 0 ++ (v :: qs):=by
 rw [List.set_append_left _ _ (by simp),List.replicate_succ',List.set_append_right _ _ (by simp)]
 simp
theorem shiftDown_some (b off cap wh pt k N:Nat) (ys:List Nat) (w:World) (hy:Hid (ys.length = N)) (hN0:0 < N) (hN:N≤40000) (hwh:wh≤40000) (hcap:wh+N≤cap) (hcap2:cap≤9223372036854775807) (hx:Pl.Wf ys) (hlt:b < w.heap.size) (hk:Hid (k = 32 * wh+pt)) (hpt:pt < 32)
  (hc:∀ j,j < N→w.cell? ⟨b,off+wh+j,none⟩ = some (.int .u32 ((ys[j]?.getD 0:Nat):Int))) :
  Calls Tryz.prog 86 #[.slice (some ⟨b,off,none⟩) (wh+N) cap,.int .i64 (k:Int)] w
   fun e w'=>∃ l qs,e = .returned (.slice (some ⟨w.heap.size,0,none⟩) l l)∧l≤N∧Own w' w.heap.size (.slice (some ⟨w.heap.size,0,none⟩) l l) qs∧qs.length = l∧Pl.Wf qs∧Pl.Norm qs∧Pl.val qs = Pl.val ys / 2 ^ pt∧Below w.heap.size w w':=by
 have hmk:=make_limbs ((N:Int)) N rfl (by omega)
 have hq:(k:Int) / 32 = (wh:Int):=by have:=unhide hk; omega
 have hr:(k:Int) % 32 = (pt:Int):=by have:=unhide hk; omega
 have HP:Hid (k % 32 = pt):=by have:=unhide hk; exact hide (by omega)
 go_enter Tryz.func86,Tryz.ntmps86
 go_wp2
 clear hmk hq hr
 go_loopw [9,10] (fun ab i wr=>∃ (j A:Nat) (qs:List Nat),j≤N∧i = .int .i64 ((j:Int) - 1)∧ab = .int .u64 (A:Int)∧A < 18446744073709551616∧A % 4294967296 = ys[j]?.getD 0∧qs.length = N - j∧Pl.Wf qs∧Pl.val qs = Pl.val (ys.drop j) / 2 ^ pt ∧
   Row wr w.heap.size (List.replicate j 0 ++ qs)∧Below w.heap.size w wr) (fun _ i _=>(intOf i+1).toNat)
 case atStart=>
  refine ⟨N,0,[],Nat.le_refl _,rfl,rfl,by omega,?_,by simp,Pl.wf_nil,?_,?_,gr_alloc _ _⟩
  ·rw [List.getElem?_eq_none (by rw [unhide hy]; omega)]; rfl
  ·rw [List.drop_eq_nil_of_le (by rw [unhide hy]; omega)]; simp [Pl.val]
  ·rw [List.append_nil]; exact Row.made _ _
 case round=>
  obtain ⟨j,A,qs,hj,rfl,rfl,hA,hAm,hql,hqw,hv,hrow,hbel⟩:=hrel
  by_cases hj0:j = 0
  ·subst hj0
   have hr2:Row wr w.heap.size qs:=by simpa using hrow
   rw [List.drop_zero] at hv
   have HV:=hide hv
   clear hv hrow hAm hc
   go_wp2_with fail
   refine (trim_at w.heap.size 0 N N qs wr (by omega) (Nat.le_refl _) (by omega) (fun j hj=>by rw [Nat.zero_add]; exact hr2.cell j hj)).mono ?_
   rintro e w1 ⟨rfl,l,hl,h0,h1,rfl⟩
   have HT:=hide (trim_row hr2 (Nat.le_refl _) (by omega) hqw hl h0 h1)
   clear h0 h1
   go_wp2
   go_ret
   obtain ⟨t1,t2,t3,t4,t5⟩:=unhide HT
   exact ⟨l,qs.take l,rfl,by omega,t2,t1,t3,t4,by rw [t5,unhide HV],hbel⟩
  ·obtain ⟨i,rfl⟩:∃ i,j = i+1:=⟨j - 1,by omega⟩
   obtain ⟨x,hxx⟩:∃ x,x = ys[i]?.getD 0:=⟨_,rfl⟩
   have hx1:x < 4294967296:=by rw [hxx]; exact Pl.wf_at hx i
   have hcx:wr.cell? ⟨b,off+wh+i,none⟩ = some (.int .u32 (x:Int)):=by rw [hxx]; exact (hbel.cell (by exact hlt)).trans (hc i (by omega))
   have hcq:=hrow.cell i (by simp; omega)
   have hfq:=hrow.frozen i
   have HV:Hid (Pl.val ((A % 4294967296 * 4294967296+x) / 2 ^ pt % 4294967296 :: qs) = Pl.val (ys.drop i) / 2 ^ pt):=by
    have hyl:=unhide hy
    rw [Pl.drop_cons ys i (by omega),← hxx]
    simp only [Pl.val]
    rw [hv]
    exact down_step (Nat.pow_pos (by decide)) (pow_split hpt) (by rw [hAm]; exact val_mod ys hx (i+1)) hx1
   have HR:=hide (hrow.set i ((A % 4294967296 * 4294967296+x) / 2 ^ pt % 4294967296) (by simp; omega))
   have HX:=hide hxx
   have hA2:A % 4294967296 < 4294967296:=Nat.mod_lt _ (by decide)
   clear hxx hv hrow hc hAm
   go_wp2
   go_roundw
   case rel=>
    rw [or_wrap A x hx1,down_shr _ k pt (unhide HP)]
    refine ⟨i,A % 4294967296 * 4294967296+x,(A % 4294967296 * 4294967296+x) / 2 ^ pt % 4294967296 :: qs,by omega,rfl,rfl,by omega,by rw [← unhide HX]; omega,by simp; omega,Pl.wf_cons (Nat.mod_lt _ (by decide)) hqw,unhide HV,?_,hbel.setCell (Nat.le_refl _) _⟩
    have h:=unhide HR
    rwa [set_rep'] at h
   case measure=>simp [intOf]
theorem shiftDown_nil (a:Option Addr) (n cap wh k:Nat) (w:World) (hk:Hid (wh = k / 32)) (hk2:wh < 9223372036854775808) (hle:n≤wh) :
  Calls Tryz.prog 86 #[.slice a n cap,.int .i64 (k:Int)] w fun e w'=>e = .returned (.slice none 0 0)∧w' = w:=by
 have hq:(k:Int) / 32 = (wh:Int):=by have:=unhide hk; omega
 have hd:(n:Int)≤(wh:Int):=by omega
 clear hle
 go_enter Tryz.func86,Tryz.ntmps86
 go_wp2
 go_ret
 exact ⟨rfl,rfl⟩
theorem shiftDown_any (a:Option Addr) (n cap m k:Nat) (w:World) (h:Num w a n m) (hcap:n≤cap) (hcap2:cap≤9223372036854775807) (hk:k < 9223372036854775808) :
  Calls Tryz.prog 86 #[.slice a n cap,.int .i64 (k:Int)] w fun e w'=>(∃ a' l c,e = .returned (.slice a' l c)∧Mine w' w.heap.size a' l c (m / 2 ^ k))∧Below w.heap.size w w':=by
 obtain ⟨xs,hn,hl,hw,hN,hv,hb⟩:=h
 by_cases hle:n≤k / 32
 ·refine (shiftDown_nil a n cap (k / 32) k w rfl (by omega) hle).mono ?_
  rintro e w' ⟨rfl,rfl⟩
  have h0:m / 2 ^ k = 0:=by
   apply Nat.div_eq_of_lt
   have h1:=Pl.val_lt hw
   rw [hv,hn] at h1
   have h2:(4294967296:Nat) ^ n = 2 ^ (32 * n):=by rw [Nat.pow_mul]
   have h3:=Nat.pow_le_pow_right (show 0 < 2 by decide) (show 32 * n≤k by omega)
   rw [h2] at h1
   exact Nat.lt_of_lt_of_le h1 h3
  rw [h0]
  exact ⟨⟨none,0,0,rfl,[],rfl,Or.inl ⟨rfl,rfl⟩,Pl.wf_nil,Pl.norm_nil,rfl,by omega⟩,gr_refl _⟩
 ·rcases hl.parts with hx|⟨hp,b,off,rfl,hltb,hcx⟩
  ·rw [hx] at hn; simp at hn; omega
  ·obtain ⟨N,rfl⟩:∃ N,n = k / 32+N:=⟨n - k / 32,by omega⟩
   have hyl:(xs.drop (k / 32)).length = N:=by rw [List.length_drop]; omega
   refine (shiftDown_some b off cap (k / 32) (k % 32) k N (xs.drop (k / 32)) w (hide hyl) (by omega) (by omega) (by omega) hcap hcap2 (Pl.wf_drop hw _) hltb (hide (by omega)) (by omega) (fun j hj=>?_)).mono ?_
   ·have:=hcx (k / 32+j) (by omega)
    rw [← Nat.add_assoc] at this
    rw [this,List.getElem?_drop]
   ·rintro e w' ⟨l,qs,rfl,hlN,hO,hql,hqw,hqN,hqv,hb1⟩
    refine ⟨⟨_,l,l,rfl,qs,hql,hO,hqw,hqN,?_,by omega⟩,hb1⟩
    rw [hqv,← hv,Pl.val_split xs (k / 32) (by omega)]
    have e:2 ^ k = 4294967296 ^ (k / 32) * 2 ^ (k % 32):=by
     rw [show (4294967296:Nat) = 2 ^ 32 from rfl,← Nat.pow_mul,← Nat.pow_add]
     congr 1; omega
    have hlo:=Pl.val_lt (Pl.wf_take hw (k / 32))
    rw [List.length_take,Nat.min_eq_left (by omega)] at hlo
    rw [e,← Nat.div_div_eq_div_mul]
    congr 1
    rw [Nat.add_comm,Nat.mul_add_div (Nat.lt_of_le_of_lt (Nat.zero_le _) hlo),Nat.div_eq_of_lt hlo,Nat.add_zero]
theorem bne_cast (c:Nat):((c:Int) != 0) = (c != 0):=by rw [Bool.eq_iff_iff]; simp
theorem addInto_some (B p n b off m cap cap':Nat) (pre d post xs:List Nat) (w:World) (hp:Hid (pre.length = p)) (hd:Hid (d.length = n)) (hx:Hid (xs.length = m)) (hmn:m≤n) (hlen:n≤40000) (hne:b≠B)
  (wd:Pl.Wf d) (wx:Pl.Wf xs) (hrow:Row w B (pre ++ d ++ post))
  (hc:∀ j,j < m→w.cell? ⟨b,off+j,none⟩ = some (.int .u32 ((xs[j]?.getD 0:Nat):Int))) :
  Calls Tryz.prog 81 #[.slice (some ⟨B,p,none⟩) n cap,.slice (some ⟨b,off,none⟩) m cap'] w
   fun e w'=>∃ (out:List Nat) (c:Nat),e = .returned (.bool (c != 0))∧out.length = n∧Pl.Wf out∧c≤1∧Pl.val out+4294967296 ^ n * c = Pl.val d+Pl.val xs∧Row w' B (pre ++ out ++ post)∧Only B w w':=by
 go_enter Tryz.func81,Tryz.ntmps81
 go_wp2
 go_loopw [5,9] (fun t i wr=>∃ (k c:Nat) (out:List Nat),k≤n∧i = .int .i64 k∧t = .int .u64 (c:Int)∧c≤1∧out.length = k∧Pl.Wf out ∧
   Pl.val out+4294967296 ^ k * c = Pl.val (d.take k)+Pl.val (xs.take k)∧Row wr B (pre ++ (out ++ d.drop k) ++ post)∧Only B w wr) (fun _ i _=>n - (intOf i).toNat)
 case atStart=>exact ⟨0,0,[],Nat.zero_le _,rfl,rfl,by omega,rfl,Pl.wf_nil,by simp [Pl.val],by simpa using hrow,Only.refl _ _⟩
 case round=>
  obtain ⟨k,c,out,hk,rfl,rfl,hcl,hol,how,hval,hr,honly⟩:=hrel
  have hpl:=unhide hp
  have hdl:=unhide hd
  have hxl:=unhide hx
  by_cases hlt:k < n
  ·obtain ⟨y,hy⟩:∃ y,y = d[k]?.getD 0:=⟨_,rfl⟩
   obtain ⟨x,hxx⟩:∃ x,x = xs[k]?.getD 0:=⟨_,rfl⟩
   have hx1:x < 4294967296:=by rw [hxx]; exact Pl.wf_at wx k
   have hy1:y < 4294967296:=by rw [hy]; exact Pl.wf_at wd k
   have hcd:wr.cell? ⟨B,p+k,none⟩ = some (.int .u32 (y:Int)):=by
    rw [hr.cell (p+k) (by simp; omega),← hpl,at_mid _ _ _ _ _ hol (by omega),hy]
   have hfz:wr.frozen? ⟨B,p+k,none⟩ = false:=hr.frozen _
   have HV:Hid (∀ q r,c+y+x = q * 4294967296+r→Pl.val (out ++ [r])+4294967296 ^ (k+1) * q = Pl.val (d.take (k+1))+Pl.val (xs.take (k+1))):=fun q r e=>by
    rw [Pl.val_append,Pl.val_one,hol,Pl.val_take_any d k,Pl.val_take_any xs k,← hy,← hxx]
    exact Pl.step_add _ (Nat.pow_succ ..) hval (c+y+x) q r e y rfl
   have HR:Hid (∀ v,Row (wr.setCell ⟨B,p+k,none⟩ (.int .u32 ((v:Nat):Int))) B (pre ++ ((out ++ [v]) ++ d.drop (k+1)) ++ post)):=fun v=>by
    have:=hr.set (p+k) v (by simp; omega)
    rw [← hpl] at this ⊢
    rwa [set_mid _ _ _ _ _ _ hol (by omega)] at this
   by_cases hkm:k < m
   ·have hcx:wr.cell? ⟨b,off+k,none⟩ = some (.int .u32 (x:Int)):=by rw [hxx]; exact (honly.cell (by exact hne)).trans (hc k hkm)
    clear hval hy hxx hr hpl hdl hxl hc
    go_wp2
    go_roundw
    case rel=>
     have e1:((c:Int)+(y:Int)+(x:Int)) / 4294967296 = (((c+y+x) / 4294967296:Nat):Int):=by omega
     have e2:((c:Int)+(y:Int)+(x:Int)) % 4294967296 = (((c+y+x) % 4294967296:Nat):Int):=by omega
     rw [e1,e2]
     exact ⟨k+1,(c+y+x) / 4294967296,out ++ [(c+y+x) % 4294967296],by omega,by go_num,rfl,by omega,by simp [hol],Pl.wf_append how (Pl.wf_one (by omega)),unhide HV _ _ (by omega),unhide HR _,honly.setCell _ _⟩
    case measure=>simp [intOf]; omega
   ·have hx0:x = 0:=by rw [hxx,List.getElem?_eq_none (by omega)]; rfl
    subst hx0
    clear hval hy hxx hr hpl hdl hxl hc
    go_wp2
    go_roundw
    case rel=>
     have e1:((c:Int)+(y:Int)) / 4294967296 = (((c+y+0) / 4294967296:Nat):Int):=by omega
     have e2:((c:Int)+(y:Int)) % 4294967296 = (((c+y+0) % 4294967296:Nat):Int):=by omega
     rw [e1,e2]
     exact ⟨k+1,(c+y+0) / 4294967296,out ++ [(c+y+0) % 4294967296],by omega,by go_num,rfl,by omega,by simp [hol],Pl.wf_append how (Pl.wf_one (by omega)),unhide HV _ _ (by omega),unhide HR _,honly.setCell _ _⟩
    case measure=>simp [intOf]; omega
  ·have hke:k = n:=by omega
   subst hke
   rw [List.take_of_length_le (by omega),List.take_of_length_le (by omega)] at hval
   rw [List.drop_eq_nil_of_le (by omega),List.append_nil] at hr
   have HV:=hide hval
   clear hval hpl hdl hxl
   go_wp2
   go_ret
   exact ⟨out,c,ret_bool (a:=((c:Int) != 0)) (bne_cast c),hol,how,hcl,unhide HV,hr,honly⟩
theorem addInto_nil (B p n cap cap':Nat) (a:Option Addr) (pre d post:List Nat) (w:World) (hp:Hid (pre.length = p)) (hd:Hid (d.length = n)) (hlen:n≤40000)
  (wd:Pl.Wf d) (hrow:Row w B (pre ++ d ++ post)) :
  Calls Tryz.prog 81 #[.slice (some ⟨B,p,none⟩) n cap,.slice a 0 cap'] w
   fun e w'=>∃ (out:List Nat) (c:Nat),e = .returned (.bool (c != 0))∧out.length = n∧Pl.Wf out∧c≤1∧Pl.val out+4294967296 ^ n * c = Pl.val d∧Row w' B (pre ++ out ++ post)∧Only B w w':=by
 go_enter Tryz.func81,Tryz.ntmps81
 go_wp2
 go_loopw [5,9] (fun t i wr=>∃ (k c:Nat) (out:List Nat),k≤n∧i = .int .i64 k∧t = .int .u64 (c:Int)∧c≤1∧out.length = k∧Pl.Wf out ∧
   Pl.val out+4294967296 ^ k * c = Pl.val (d.take k)∧Row wr B (pre ++ (out ++ d.drop k) ++ post)∧Only B w wr) (fun _ i _=>n - (intOf i).toNat)
 case atStart=>exact ⟨0,0,[],Nat.zero_le _,rfl,rfl,by omega,rfl,Pl.wf_nil,by simp [Pl.val],by simpa using hrow,Only.refl _ _⟩
 case round=>
  obtain ⟨k,c,out,hk,rfl,rfl,hcl,hol,how,hval,hr,honly⟩:=hrel
  have hpl:=unhide hp
  have hdl:=unhide hd
  by_cases hlt:k < n
  ·obtain ⟨y,hy⟩:∃ y,y = d[k]?.getD 0:=⟨_,rfl⟩
   have hy1:y < 4294967296:=by rw [hy]; exact Pl.wf_at wd k
   have hcd:wr.cell? ⟨B,p+k,none⟩ = some (.int .u32 (y:Int)):=by
    rw [hr.cell (p+k) (by simp; omega),← hpl,at_mid _ _ _ _ _ hol (by omega),hy]
   have hfz:wr.frozen? ⟨B,p+k,none⟩ = false:=hr.frozen _
   have HV:Hid (∀ q r,c+y = q * 4294967296+r→Pl.val (out ++ [r])+4294967296 ^ (k+1) * q = Pl.val (d.take (k+1))):=fun q r e=>by
    rw [Pl.val_append,Pl.val_one,hol,Pl.val_take_any d k,← hy]
    have h0:Pl.val out+4294967296 ^ k * c = Pl.val (d.take k)+0:=hval
    have h1:=Pl.step_add (s:=0) _ (Nat.pow_succ ..) h0 (c+y) q r e y rfl
    rw [Nat.mul_zero,Nat.add_zero] at h1
    exact h1
   have HR:Hid (∀ v,Row (wr.setCell ⟨B,p+k,none⟩ (.int .u32 ((v:Nat):Int))) B (pre ++ ((out ++ [v]) ++ d.drop (k+1)) ++ post)):=fun v=>by
    have:=hr.set (p+k) v (by simp; omega)
    rw [← hpl] at this ⊢
    rwa [set_mid _ _ _ _ _ _ hol (by omega)] at this
   clear hval hy hr hpl hdl
   go_wp2
   go_roundw
   case rel=>
    have e1:((c:Int)+(y:Int)) / 4294967296 = (((c+y) / 4294967296:Nat):Int):=by omega
    have e2:((c:Int)+(y:Int)) % 4294967296 = (((c+y) % 4294967296:Nat):Int):=by omega
    rw [e1,e2]
    exact ⟨k+1,(c+y) / 4294967296,out ++ [(c+y) % 4294967296],by omega,by go_num,rfl,by omega,by simp [hol],Pl.wf_append how (Pl.wf_one (by omega)),unhide HV _ _ (by omega),unhide HR _,honly.setCell _ _⟩
   case measure=>simp [intOf]; omega
  ·have hke:k = n:=by omega
   subst hke
   rw [List.take_of_length_le (by omega)] at hval
   rw [List.drop_eq_nil_of_le (by omega),List.append_nil] at hr
   have HV:=hide hval
   clear hval hpl hdl
   go_wp2
   go_ret
   exact ⟨out,c,ret_bool (a:=((c:Int) != 0)) (bne_cast c),hol,how,hcl,unhide HV,hr,honly⟩
theorem xor_limb (x:Nat) (hx:x < 4294967296):Go.bits .xor .u32 4294967295 (x:Int) = ((4294967295 - x:Nat):Int):=by
 have h1:BitVec.ofInt 32 4294967295 = BitVec.allOnes 32:=by decide
 have h2:(BitVec.ofInt 32 (x:Int)).toNat = x:=by
  rw [BitVec.ofInt_natCast,BitVec.toNat_ofNat]; exact Nat.mod_eq_of_lt (by omega)
 show IntKind.u32.wrap ((BitVec.ofInt 32 4294967295 ^^^ BitVec.ofInt 32 (x:Int)).toNat:Int) = _
 rw [h1,BitVec.allOnes_xor,BitVec.toNat_not,h2,IntKind.wrap_u32]
 omega
theorem Pl.step_take {p o c d B:Nat} (B':Nat) (hB:B' = B * 4294967296) (h:o+B * c+p = d+B) (t q r:Nat) (ht:t = q * 4294967296+r) (x s:Nat) (hs:s < 4294967296) (hx:t = c+x+(4294967295 - s)) :
  (o+B * r)+B' * q+(p+B * s) = (d+B * x)+B':=by
 subst hB
 have e0:t+s+1 = c+x+4294967296:=by omega
 have e1:B * (t+s+1) = B * (c+x+4294967296):=by rw [e0]
 have e2:B * t = B * 4294967296 * q+B * r:=by rw [ht,Nat.mul_add,Nat.mul_assoc,Nat.mul_comm q]
 simp only [Nat.mul_add,Nat.mul_one] at e1
 omega
theorem Pl.take_end {O c B p d:Nat} (h:O+B * c+p = d+B) (hO:O < B) (hp:p≤d) (hc:c≤1):O = d - p:=by
 have hc':c = 1:=by
  cases c with
  | zero=>simp at h; omega
  | succ c=>omega
 subst hc'
 omega
theorem takeInto_some (B n b off m cap cap':Nat) (d xs:List Nat) (w:World) (hd:Hid (d.length = n)) (hx:Hid (xs.length = m)) (hmn:m≤n) (hlen:n≤40000) (hne:b≠B) (hle:Hid (Pl.val xs≤Pl.val d))
  (wd:Pl.Wf d) (wx:Pl.Wf xs) (hrow:Row w B d)
  (hc:∀ j,j < m→w.cell? ⟨b,off+j,none⟩ = some (.int .u32 ((xs[j]?.getD 0:Nat):Int))) :
  Calls Tryz.prog 109 #[.slice (some ⟨B,0,none⟩) n cap,.slice (some ⟨b,off,none⟩) m cap'] w
   fun e w'=>∃ (out:List Nat),e = .returned (.tuple #[])∧out.length = n∧Pl.Wf out∧Pl.val out = Pl.val d - Pl.val xs∧Row w' B out∧Only B w w':=by
 go_enter Tryz.func109,Tryz.ntmps109
 go_wp2
 go_loopw [4,9] (fun t i wr=>∃ (k c:Nat) (out:List Nat),k≤n∧i = .int .i64 k∧t = .int .u64 (c:Int)∧c≤1∧out.length = k∧Pl.Wf out ∧
   Pl.val out+4294967296 ^ k * c+Pl.val (xs.take k) = Pl.val (d.take k)+4294967296 ^ k∧Row wr B (out ++ d.drop k)∧Only B w wr) (fun _ i _=>n - (intOf i).toNat)
 case atStart=>exact ⟨0,1,[],Nat.zero_le _,rfl,rfl,by omega,rfl,Pl.wf_nil,by simp [Pl.val],by simpa using hrow,Only.refl _ _⟩
 case round=>
  obtain ⟨k,c,out,hk,rfl,rfl,hcl,hol,how,hval,hr,honly⟩:=hrel
  have hdl:=unhide hd
  have hxl:=unhide hx
  by_cases hlt:k < n
  ·obtain ⟨y,hy⟩:∃ y,y = d[k]?.getD 0:=⟨_,rfl⟩
   obtain ⟨x,hxx⟩:∃ x,x = xs[k]?.getD 0:=⟨_,rfl⟩
   have hx1:x < 4294967296:=by rw [hxx]; exact Pl.wf_at wx k
   have hy1:y < 4294967296:=by rw [hy]; exact Pl.wf_at wd k
   have hcd:wr.cell? ⟨B,k,none⟩ = some (.int .u32 (y:Int)):=by
    have:=at_mid [] out d [] k hol (by omega)
    simp only [List.nil_append,List.append_nil,List.length_nil,Nat.zero_add] at this
    rw [hr.cell k (by simp; omega),this,hy]
   have hfz:wr.frozen? ⟨B,k,none⟩ = false:=hr.frozen _
   have HV:Hid (∀ q r,c+y+(4294967295 - x) = q * 4294967296+r→Pl.val (out ++ [r])+4294967296 ^ (k+1) * q+Pl.val (xs.take (k+1)) = Pl.val (d.take (k+1))+4294967296 ^ (k+1)):=fun q r e=>by
    rw [Pl.val_append,Pl.val_one,hol,Pl.val_take_any d k,Pl.val_take_any xs k,← hy,← hxx]
    exact Pl.step_take _ (Nat.pow_succ ..) hval (c+y+(4294967295 - x)) q r e y x hx1 rfl
   have HR:Hid (∀ v,Row (wr.setCell ⟨B,k,none⟩ (.int .u32 ((v:Nat):Int))) B ((out ++ [v]) ++ d.drop (k+1))):=fun v=>by
    have:=hr.set k v (by simp; omega)
    have e:=set_mid [] out d [] k v hol (by omega)
    simp only [List.nil_append,List.append_nil,List.length_nil,Nat.zero_add] at e
    rwa [e] at this
   by_cases hkm:k < m
   ·have hcx:wr.cell? ⟨b,off+k,none⟩ = some (.int .u32 (x:Int)):=by rw [hxx]; exact (honly.cell (by exact hne)).trans (hc k hkm)
    have hxo:=xor_limb x hx1
    obtain ⟨x',hx'⟩:∃ x',x' = 4294967295 - x:=⟨_,rfl⟩
    rw [← hx'] at hxo
    have hx2:x' < 4294967296:=by omega
    have HX:=hide hx'
    clear hval hy hxx hr hdl hxl hc hx'
    go_wp2
    go_roundw
    case rel=>
     have e1:((c:Int)+((y:Int)+(x':Int))) / 4294967296 = (((c+y+x') / 4294967296:Nat):Int):=by omega
     have e2:((c:Int)+((y:Int)+(x':Int))) % 4294967296 = (((c+y+x') % 4294967296:Nat):Int):=by omega
     rw [e1,e2]
     have:=unhide HX
     exact ⟨k+1,(c+y+x') / 4294967296,out ++ [(c+y+x') % 4294967296],by omega,by go_num,rfl,by omega,by simp [hol],Pl.wf_append how (Pl.wf_one (by omega)),unhide HV _ _ (by omega),unhide HR _,honly.setCell _ _⟩
    case measure=>simp [intOf]; omega
   ·have hx0:x = 0:=by rw [hxx,List.getElem?_eq_none (by omega)]; rfl
    subst hx0
    clear hval hy hxx hr hdl hxl hc
    go_wp2
    go_roundw
    case rel=>
     have e1:((c:Int)+((y:Int)+4294967295)) / 4294967296 = (((c+y+(4294967295 - 0)) / 4294967296:Nat):Int):=by omega
     have e2:((c:Int)+((y:Int)+4294967295)) % 4294967296 = (((c+y+(4294967295 - 0)) % 4294967296:Nat):Int):=by omega
     rw [e1,e2]
     exact ⟨k+1,(c+y+(4294967295 - 0)) / 4294967296,out ++ [(c+y+(4294967295 - 0)) % 4294967296],by omega,by go_num,rfl,by omega,by simp [hol],Pl.wf_append how (Pl.wf_one (by omega)),unhide HV _ _ (by omega),unhide HR _,honly.setCell _ _⟩
    case measure=>simp [intOf]; omega
  ·have hke:k = n:=by omega
   subst hke
   rw [List.take_of_length_le (by omega),List.take_of_length_le (by omega)] at hval
   rw [List.drop_eq_nil_of_le (by omega),List.append_nil] at hr
   have hve:Pl.val out = Pl.val d - Pl.val xs:=Pl.take_end hval (by have:=Pl.val_lt how; rwa [hol] at this) (unhide hle) hcl
   have HV:=hide hve
   clear hval hdl hxl hve
   go_wp2
   go_end0
   exact ⟨out,rfl,hol,how,unhide HV,hr,honly⟩
theorem takeInto_zero (B n cap cap':Nat) (a:Option Addr) (d:List Nat) (w:World) (hd:Hid (d.length = n)) (hlen:n≤40000)
  (wd:Pl.Wf d) (hrow:Row w B d) :
  Calls Tryz.prog 109 #[.slice (some ⟨B,0,none⟩) n cap,.slice a 0 cap'] w
   fun e w'=>∃ (out:List Nat),e = .returned (.tuple #[])∧out.length = n∧Pl.Wf out∧Pl.val out = Pl.val d∧Row w' B out∧Only B w w':=by
 go_enter Tryz.func109,Tryz.ntmps109
 go_wp2
 go_loopw [4,9] (fun t i wr=>∃ (k c:Nat) (out:List Nat),k≤n∧i = .int .i64 k∧t = .int .u64 (c:Int)∧c≤1∧out.length = k∧Pl.Wf out ∧
   Pl.val out+4294967296 ^ k * c+0 = Pl.val (d.take k)+4294967296 ^ k∧Row wr B (out ++ d.drop k)∧Only B w wr) (fun _ i _=>n - (intOf i).toNat)
 case atStart=>exact ⟨0,1,[],Nat.zero_le _,rfl,rfl,by omega,rfl,Pl.wf_nil,by simp [Pl.val],by simpa using hrow,Only.refl _ _⟩
 case round=>
  obtain ⟨k,c,out,hk,rfl,rfl,hcl,hol,how,hval,hr,honly⟩:=hrel
  have hdl:=unhide hd
  by_cases hlt:k < n
  ·obtain ⟨y,hy⟩:∃ y,y = d[k]?.getD 0:=⟨_,rfl⟩
   have hy1:y < 4294967296:=by rw [hy]; exact Pl.wf_at wd k
   have hcd:wr.cell? ⟨B,k,none⟩ = some (.int .u32 (y:Int)):=by
    have:=at_mid [] out d [] k hol (by omega)
    simp only [List.nil_append,List.append_nil,List.length_nil,Nat.zero_add] at this
    rw [hr.cell k (by simp; omega),this,hy]
   have hfz:wr.frozen? ⟨B,k,none⟩ = false:=hr.frozen _
   have HV:Hid (∀ q r,c+y+4294967295 = q * 4294967296+r→Pl.val (out ++ [r])+4294967296 ^ (k+1) * q+0 = Pl.val (d.take (k+1))+4294967296 ^ (k+1)):=fun q r e=>by
    rw [Pl.val_append,Pl.val_one,hol,Pl.val_take_any d k,← hy]
    have:=Pl.step_take _ (Nat.pow_succ ..) hval (c+y+(4294967295 - 0)) q r e y 0 (by decide) rfl
    rwa [Nat.mul_zero] at this
   have HR:Hid (∀ v,Row (wr.setCell ⟨B,k,none⟩ (.int .u32 ((v:Nat):Int))) B ((out ++ [v]) ++ d.drop (k+1))):=fun v=>by
    have:=hr.set k v (by simp; omega)
    have e:=set_mid [] out d [] k v hol (by omega)
    simp only [List.nil_append,List.append_nil,List.length_nil,Nat.zero_add] at e
    rwa [e] at this
   clear hval hy hr hdl
   go_wp2
   go_roundw
   case rel=>
    have e1:((c:Int)+((y:Int)+4294967295)) / 4294967296 = (((c+y+4294967295) / 4294967296:Nat):Int):=by omega
    have e2:((c:Int)+((y:Int)+4294967295)) % 4294967296 = (((c+y+4294967295) % 4294967296:Nat):Int):=by omega
    rw [e1,e2]
    exact ⟨k+1,(c+y+4294967295) / 4294967296,out ++ [(c+y+4294967295) % 4294967296],by omega,by go_num,rfl,by omega,by simp [hol],Pl.wf_append how (Pl.wf_one (by omega)),unhide HV _ _ (by omega),unhide HR _,honly.setCell _ _⟩
   case measure=>simp [intOf]; omega
  ·have hke:k = n:=by omega
   subst hke
   rw [List.take_of_length_le (by omega)] at hval
   rw [List.drop_eq_nil_of_le (by omega),List.append_nil] at hr
   have hve:Pl.val out = Pl.val d - 0:=Pl.take_end hval (by have:=Pl.val_lt how; rwa [hol] at this) (Nat.zero_le _) hcl
   have HV:=hide hve
   clear hval hdl hve
   go_wp2
   go_end0
   exact ⟨out,rfl,hol,how,unhide HV,hr,honly⟩
theorem takeInto_none (cap:Nat) (a a':Option Addr) (n' cap':Nat) (w:World) :
  Calls Tryz.prog 109 #[.slice a 0 cap,.slice a' n' cap'] w
   fun e w'=>e = .returned (.tuple #[])∧w' = w:=by
 go_enter Tryz.func109,Tryz.ntmps109
 go_wp2
 refine wp_loop_rounds 1 ?_
 rw [rounds_succ]
 go_wp2
 go_end0
 exact ⟨rfl,rfl⟩
theorem own_parts {w:World} {base n:Nat} {v:Value} {xs:List Nat} (hn:xs.length = n) (hp:0 < n) (h:w.ownsRow base 25 1 v n (xs.map (fun z:Nat=>Value.int .u32 (z:Int)))) :
  ∃ g c,v = .slice (some ⟨g,0,none⟩) n c∧base≤g∧n≤c∧c≤9223372036854775807∧Row w g xs∧Own w base (.slice (some ⟨g,0,none⟩) n c) xs:=by
 obtain ⟨_,h|⟨g,c,cur,hv,hg,hh,h1,h2,h3,h4⟩⟩:=h
 ·omega
 ·have hcur:cur = lc xs ++ (cur.toList.drop n).toArray:=by
   apply Array.toList_inj.1
   rw [Array.toList_append]
   simp only [lc]
   rw [← h4,Nat.mul_one,List.take_append_drop]
  have hrow:Row w g xs:=⟨(cur.toList.drop n).toArray,by rw [← hcur]; exact hh⟩
  have hc:c≤9223372036854775807:=by unfold maxLen at h2; exact h2
  refine ⟨g,c,hv,hg,h1,hc,hrow,Or.inr ⟨g,c,cur,by rw [hn],hg,hh,by omega,by omega,hc,fun j hj=>?_⟩⟩
  rw [hcur]; exact lc_at' xs _ j hj
theorem clone_some (b off cap n:Nat) (xs:List Nat) (w:World) (hn:Hid (xs.length = n)) (hp:0 < n) (hlen:n≤1073741824) (hlt:b < w.heap.size)
  (hc:∀ j,j < n→w.cell? ⟨b,off+j,none⟩ = some (.int .u32 ((xs[j]?.getD 0:Nat):Int))) :
  Calls Tryz.prog 43 #[.slice (some ⟨b,off,none⟩) n cap] w
   fun e w'=>∃ g c:Nat,e = .returned (.slice (some ⟨g,0,none⟩) n c)∧w.heap.size≤g∧n≤c∧c≤9223372036854775807∧Row w' g xs∧Own w' w.heap.size (.slice (some ⟨g,0,none⟩) n c) xs∧Below w.heap.size w w':=by
 have hni:=fun (w:World)=>Lib.run_eql_slice_nil (P:=Tryz.prog) w 22 25 (some ⟨b,off,none⟩) n cap 0 0 Tryz.under_limbs
 obtain ⟨i0,hi,hz0,hz1,hz2⟩:=info_parts Tryz.info_limb
 go_enter Tryz.func43,Tryz.ntmps43
 go_wp2_with (at_builtin; refine wpList_append_own _ rfl (.tmp 5) (.tmp 6) 22 rfl w.heap.size 25 i0 (.int .u32 0) 1 4 Tryz.under_limbs hi hz0 hz1 hz2 rfl (by decide) _ 0 [] rfl (World.ownsRow_made w #[] 0 (Nat.le_refl _) (by decide) rfl) ⟨b,off,none⟩ n cap (xs.map (fun z:Nat=>Value.int .u32 (z:Int))) rfl ?hl ?hnews ?h1 ?h63 ?hbytes ?hbase ?_)
 case hl=>have:=unhide hn; simp; omega
 case hnews=>
  intro j u hj
  have hl:=unhide hn
  have hjn:j < xs.length:=by
   have:=(List.getElem?_eq_some_iff.1 hj).1
   simpa using this
  have hu:u = .int .u32 ((xs[j]?.getD 0:Nat):Int):=by
   rw [List.getElem?_map,List.getElem?_eq_getElem hjn] at hj
   simp at hj
   rw [← hj]
   simp [hjn]
  rw [hu,Addr.add_lit,((gr_alloc w (.cells #[] 25)).cell (by exact hlt))]
  exact hc j (by omega)
 case h1=>
  intro u hu
  obtain ⟨z,_,rfl⟩:=List.mem_map.1 hu
  rfl
 case h63=>unfold maxLen; omega
 case hbytes=>omega
 case hbase=>simp
 intro v' w1 hown hgrow hnil
 obtain ⟨g,c,hv,hg,hnc,hc9,hrow,hO⟩:=own_parts (unhide hn) hp hown
 have hbl:Below w.heap.size w w1:=(gr_alloc w (.cells #[] 25)).grown hgrow (by simp) (fun k hk=>by simp [Value.ownBlock] at hk; omega)
 rw [hv]
 clear hown hgrow hnil hc hni
 go_wp2
 go_ret
 exact ⟨g,c,rfl,hg,hnc,hc9,hrow,hO,hbl⟩
theorem clone_nil (cap:Nat) (w:World) :
  Calls Tryz.prog 43 #[.slice none 0 cap] w fun e w'=>e = .returned (.slice none 0 0)∧w' = w:=by
 have hni:=fun (w:World)=>Lib.run_eql_slice_nil (P:=Tryz.prog) w 22 25 none 0 cap 0 0 Tryz.under_limbs
 go_enter Tryz.func43,Tryz.ntmps43
 go_wp2
 go_ret
 exact ⟨rfl,rfl⟩
theorem clone_empty (p:Addr) (cap:Nat) (w:World) :
  Calls Tryz.prog 43 #[.slice (some p) 0 cap] w fun e w'=>(∃ g c,e = .returned (.slice (some ⟨g,0,none⟩) 0 c)∧Own w' w.heap.size (.slice (some ⟨g,0,none⟩) 0 c) [])∧Below w.heap.size w w':=by
 have hni:=fun (w:World)=>Lib.run_eql_slice_nil (P:=Tryz.prog) w 22 25 (some p) 0 cap 0 0 Tryz.under_limbs
 go_enter Tryz.func43,Tryz.ntmps43
 go_wp2
 go_ret
 exact ⟨⟨w.heap.size,0,rfl,Or.inr ⟨w.heap.size,0,#[],rfl,Nat.le_refl _,heap_alloc_new w _,Nat.le_refl _,Nat.le_refl _,by omega,fun j hj=>by simp at hj⟩⟩,gr_alloc _ _⟩
theorem clone_any (a:Option Addr) (n cap m:Nat) (w:World) (h:Num w a n m) :
  Calls Tryz.prog 43 #[.slice a n cap] w fun e w'=>(∃ a' c,e = .returned (.slice a' n c)∧Mine w' w.heap.size a' n c m)∧Below w.heap.size w w':=by
 obtain ⟨xs,hn,hl,hw,hN,hv,hb⟩:=h
 rcases hl.parts with hx|⟨hp,b,off,rfl,hlt,hc⟩
 ·subst hx
  have hn0:n = 0:=by rw [← hn]; rfl
  subst hn0
  cases a with
  | none=>
   refine (clone_nil cap w).mono ?_
   rintro e w1 ⟨rfl,rfl⟩
   exact ⟨⟨none,0,rfl,[],rfl,Or.inl ⟨rfl,rfl⟩,hw,hN,hv,hb⟩,gr_refl _⟩
  | some p=>
   refine (clone_empty p cap w).mono ?_
   rintro e w1 ⟨⟨g,c,rfl,hO⟩,hb1⟩
   exact ⟨⟨_,c,rfl,[],rfl,hO,hw,hN,hv,hb⟩,hb1⟩
 ·refine (clone_some b off cap n xs w (hide hn) (by omega) (by omega) hlt (fun j hj=>hc j (by omega))).mono ?_
  rintro e w1 ⟨g,c,rfl,_,_,_,_,hO,hb1⟩
  exact ⟨⟨_,c,rfl,xs,hn,hO,hw,hN,hv,hb⟩,hb1⟩
theorem div_step {V Q r x d t:Nat} (h:V = Q * d+r) (ht:t = r * 4294967296+x):x+4294967296 * V = (t / d+4294967296 * Q) * d+t % d:=by
 have e:=Nat.div_add_mod t d
 have e2:4294967296 * V = 4294967296 * (Q * d)+r * 4294967296:=by rw [h,Nat.mul_add,Nat.mul_comm r]
 rw [Nat.add_mul,Nat.mul_assoc,e2,Nat.mul_comm (t / d) d]
 omega
theorem div_digit {r x d t:Nat} (hr:r < d) (hx:x < 4294967296) (ht:t = r * 4294967296+x):t / d < 4294967296:=by
 apply Nat.div_lt_of_lt_mul
 have:(r+1) * 4294967296≤d * 4294967296:=Nat.mul_le_mul_right _ hr
 omega
theorem set_rep (j v:Nat) (qs post:List Nat):(List.replicate (j+1) 0 ++ qs ++ post).set j v = List.replicate j 0 ++ (v :: qs) ++ post:=by
 rw [List.append_assoc,List.set_append_left _ _ (by simp),List.replicate_succ',List.set_append_right _ _ (by simp)]
 simp
theorem divideByLimb_any (b off cap d n:Nat) (xs:List Nat) (w:World) (hn:Hid (xs.length = n)) (hlen:n≤16384) (hd:0 < d) (hd2:d < 4294967296) (hx:Pl.Wf xs) (hlt:b < w.heap.size)
  (hc:∀ j,j < n→w.cell? ⟨b,off+j,none⟩ = some (.int .u32 ((xs[j]?.getD 0:Nat):Int))) :
  Calls Tryz.prog 88 #[.slice (some ⟨b,off,none⟩) n cap,.int .u32 (d:Int)] w
   fun e w'=>∃ (k:Nat) (qs:List Nat),e = .returned (.tuple #[.slice (some ⟨w.heap.size,0,none⟩) k k,.int .u32 ((Pl.val xs % d:Nat):Int)])∧k≤n∧qs.length = k∧Own w' w.heap.size (.slice (some ⟨w.heap.size,0,none⟩) k k) qs∧Pl.Wf qs∧Pl.Norm qs∧Pl.val qs = Pl.val xs / d∧Below w.heap.size w w':=by
 have hmk:=make_limbs (n:Int) n rfl (by omega)
 go_enter Tryz.func88,Tryz.ntmps88
 go_wp2
 clear hmk
 go_loopw [6,7] (fun r i wr=>∃ (k rr:Nat) (qs:List Nat),k≤n∧i = .int .i64 ((k:Int) - 1)∧r = .int .u64 (rr:Int)∧rr < d∧qs.length = n - k∧Pl.Wf qs∧Pl.val (xs.drop k) = Pl.val qs * d+rr ∧
   Row wr w.heap.size (List.replicate k 0 ++ qs)∧Below w.heap.size w wr) (fun _ i _=>(intOf i+1).toNat)
 case atStart=>
  refine ⟨n,0,[],Nat.le_refl _,rfl,rfl,hd,by simp,Pl.wf_nil,?_,?_,gr_alloc _ _⟩
  ·rw [List.drop_eq_nil_of_le (by rw [unhide hn]; omega)]; simp [Pl.val]
  ·rw [List.append_nil]; exact Row.made _ _
 case round=>
  obtain ⟨k,rr,qs,hk,rfl,rfl,hrd,hql,hqw,hv,hrow,hbel⟩:=hrel
  by_cases hk0:k = 0
  ·subst hk0
   have hv2:=hv
   rw [List.drop_zero] at hv2
   have hr2:Row wr w.heap.size qs:=by simpa using hrow
   have hm:Pl.val xs % d = rr:=by rw [hv2,Nat.mul_comm,Nat.mul_add_mod]; exact Nat.mod_eq_of_lt hrd
   have hq:Pl.val xs / d = Pl.val qs:=by rw [hv2,Nat.mul_comm,Nat.mul_add_div hd,Nat.div_eq_of_lt hrd,Nat.add_zero]
   have HM:=hide hm
   have HQ:=hide hq
   clear hm hq hv hv2 hrow
   go_wp2_with fail
   refine (trim_at w.heap.size 0 n n qs wr (by omega) (Nat.le_refl _) (by omega) (fun j hj=>by rw [Nat.zero_add]; exact hr2.cell j hj)).mono ?_
   rintro e w1 ⟨rfl,l,hl,h0,h1,rfl⟩
   have HT:=hide (trim_row hr2 (Nat.le_refl _) (by omega) hqw hl h0 h1)
   clear h0 h1
   go_wp2
   go_ret2
   obtain ⟨t1,t2,t3,t4,t5⟩:=unhide HT
   refine ⟨l,qs.take l,?_,by omega,t1,t2,t3,t4,by rw [t5,unhide HQ],hbel⟩
   rw [unhide HM]
   rfl
  ·obtain ⟨j,rfl⟩:∃ j,k = j+1:=⟨k - 1,by omega⟩
   obtain ⟨x,hxx⟩:∃ x,x = xs[j]?.getD 0:=⟨_,rfl⟩
   obtain ⟨t,ht⟩:∃ t,t = rr * 4294967296+x:=⟨_,rfl⟩
   have hx1:x < 4294967296:=by rw [hxx]; exact Pl.wf_at hx j
   have hcx:wr.cell? ⟨b,off+j,none⟩ = some (.int .u32 (x:Int)):=by rw [hxx]; exact (hbel.cell (by exact hlt)).trans (hc j (by omega))
   have hor:Go.bits BinOp.or IntKind.u64 ((rr:Int) * 4294967296) (x:Int) = (t:Int):=by rw [or_limb rr x (by omega) hx1,ht]; omega
   have hcq:=hrow.cell j (by simp; omega)
   have hfq:=hrow.frozen j
   have hq1:t / d < 4294967296:=div_digit hrd hx1 ht
   have hqe:(t:Int) / (d:Int) = ((t / d:Nat):Int):=(Int.natCast_ediv t d).symm
   have hme:(t:Int) % (d:Int) = ((t % d:Nat):Int):=(Int.natCast_emod t d).symm
   have hq1i:(t:Int) / (d:Int) < 4294967296:=by rw [hqe]; omega
   have hq0i:(0:Int)≤(t:Int) / (d:Int):=by rw [hqe]; exact Int.natCast_nonneg _
   have HQE:=hide hqe
   have HME:=hide hme
   have hm1:t % d < d:=Nat.mod_lt _ hd
   have hnl:=unhide hn
   have HV:Hid (Pl.val (xs.drop j) = (t / d+4294967296 * Pl.val qs) * d+t % d):=by
    rw [Pl.drop_cons xs j (by omega),← hxx]; exact div_step hv ht
   have HR:=hide (hrow.set j (t / d) (by simp; omega))
   clear hxx ht hv hrow hnl hc hqe hme
   go_wp2
   go_roundw
   case rel=>
    rw [unhide HQE,unhide HME]
    refine ⟨j,t % d,t / d :: qs,by omega,rfl,rfl,hm1,by simp; omega,Pl.wf_cons hq1 hqw,unhide HV,?_,hbel.setCell (Nat.le_refl _) _⟩
    have h:=unhide HR
    have e:=set_rep j (t / d) qs []
    simp only [List.append_nil] at e
    rwa [e] at h
   case measure=>simp [intOf]
theorem cutGroup_any (B cap n:Nat) (xs post:List Nat) (w:World) (hn:Hid (xs.length = n)) (hlen:n≤16384) (hx:Pl.Wf xs) (hrow:Row w B (xs ++ post)) :
  Calls Tryz.prog 44 #[.slice (some ⟨B,0,none⟩) n cap] w
   fun e w'=>∃ qs:List Nat,e = .returned (.int .u32 ((Pl.val xs % 1000000000:Nat):Int))∧qs.length = n∧Pl.Wf qs∧Pl.val qs = Pl.val xs / 1000000000∧Row w' B (qs ++ post)∧Only B w w':=by
 go_enter Tryz.func44,Tryz.ntmps44
 go_wp2
 go_loopw [3,4] (fun r i wr=>∃ (k rr:Nat) (qs:List Nat),k≤n∧i = .int .i64 ((k:Int) - 1)∧r = .int .u64 (rr:Int)∧rr < 1000000000∧qs.length = n - k∧Pl.Wf qs∧Pl.val (xs.drop k) = Pl.val qs * 1000000000+rr ∧
   Row wr B (xs.take k ++ qs ++ post)∧Only B w wr) (fun _ i _=>(intOf i+1).toNat)
 case atStart=>
  refine ⟨n,0,[],Nat.le_refl _,rfl,rfl,by omega,by simp,Pl.wf_nil,?_,?_,Only.refl _ _⟩
  ·rw [List.drop_eq_nil_of_le (by rw [unhide hn]; omega)]; simp [Pl.val]
  ·rw [List.take_of_length_le (by rw [unhide hn]; omega),List.append_nil]; exact hrow
 case round=>
  obtain ⟨k,rr,qs,hk,rfl,rfl,hrd,hql,hqw,hv,hrow2,honly⟩:=hrel
  by_cases hk0:k = 0
  ·subst hk0
   have hv2:=hv
   rw [List.drop_zero] at hv2
   have hr2:Row wr B (qs ++ post):=by simpa using hrow2
   have hm:Pl.val xs % 1000000000 = rr:=by omega
   have hq:Pl.val qs = Pl.val xs / 1000000000:=by omega
   have HM:=hide hm
   have HQ:=hide hq
   clear hm hq hv hv2 hrow2
   go_wp2
   go_ret
   refine ⟨qs,ret_int ?_,by omega,hqw,unhide HQ,hr2,honly⟩
   rw [unhide HM]
  ·obtain ⟨j,rfl⟩:∃ j,k = j+1:=⟨k - 1,by omega⟩
   obtain ⟨x,hxx⟩:∃ x,x = xs[j]?.getD 0:=⟨_,rfl⟩
   obtain ⟨t,ht⟩:∃ t,t = rr * 4294967296+x:=⟨_,rfl⟩
   have hnl:=unhide hn
   have hx1:x < 4294967296:=by rw [hxx]; exact Pl.wf_at hx j
   have htl:(xs.take (j+1)).length = j+1:=by rw [List.length_take]; omega
   have htj:(xs.take j).length = j:=by rw [List.length_take]; omega
   have hcx:wr.cell? ⟨B,j,none⟩ = some (.int .u32 (x:Int)):=by
    rw [hrow2.cell j (by simp; omega),hxx,List.append_assoc,List.getElem?_append_left (by omega),List.getElem?_take,if_pos (by omega)]
   have hor:Go.bits BinOp.or IntKind.u64 ((rr:Int) * 4294967296) (x:Int) = (t:Int):=by rw [or_limb rr x (by omega) hx1,ht]; omega
   have hfq:=hrow2.frozen j
   have hq1:t / 1000000000 < 4294967296:=div_digit hrd hx1 ht
   have hm1:t % 1000000000 < 1000000000:=Nat.mod_lt _ (by omega)
   have hq1i:(t:Int) / 1000000000 < 4294967296:=by omega
   have HV:Hid (Pl.val (xs.drop j) = (t / 1000000000+4294967296 * Pl.val qs) * 1000000000+t % 1000000000):=by
    rw [Pl.drop_cons xs j (by omega),← hxx]; exact div_step hv ht
   have hs:=hrow2.set j (t / 1000000000) (by simp; omega)
   have es:(xs.take (j+1) ++ qs ++ post).set j (t / 1000000000) = xs.take j ++ (t / 1000000000 :: qs) ++ post:=by
    rw [Pl.take_snoc xs j (by omega),List.append_assoc,List.append_assoc,List.set_append_right _ _ (by omega),htj,Nat.sub_self]
    simp
   rw [es] at hs
   have HR:=hide hs
   clear hxx ht hv hrow2 hnl hs es htl htj
   go_wp2
   go_roundw
   case rel=>
    have e1:(t:Int) / 1000000000 = ((t / 1000000000:Nat):Int):=by omega
    have e2:(t:Int) % 1000000000 = ((t % 1000000000:Nat):Int):=by omega
    rw [e1,e2]
    exact ⟨j,t % 1000000000,t / 1000000000 :: qs,by omega,rfl,rfl,hm1,by simp; omega,Pl.wf_cons hq1 hqw,unhide HV,unhide HR,honly.setCell _ _⟩
   case measure=>simp [intOf]
theorem tt_step {o p c d f s B y t hi lo r bo:Nat} (B':Nat) (hB:B' = B * 4294967296) (h:o+f * p = d+B * c) (ht:t = c+s * f) (e:t = 4294967296 * hi+lo) (hr:r+lo = y+4294967296 * bo) :
  (o+B * r)+f * (p+B * s) = (d+B * y)+B' * (hi+bo):=by
 subst hB
 have e1:B * t = B * 4294967296 * hi+B * lo:=by rw [e,Nat.mul_add,Nat.mul_assoc]
 have e2:B * t = B * c+f * (B * s):=by rw [ht,Nat.mul_add]; congr 1; rw [Nat.mul_comm s f,Nat.mul_left_comm]
 have e3:B * (r+lo) = B * (y+4294967296 * bo):=by rw [hr]
 rw [Nat.mul_add,Nat.mul_add,← Nat.mul_assoc] at e3
 rw [Nat.mul_add,Nat.mul_add]
 omega
theorem tt_bound {c f s hi lo:Nat} (hc:c≤f) (hs:s < 4294967296) (e:c+s * f = 4294967296 * hi+lo) (hl:lo < 4294967296):hi≤f∧(hi = f→lo = 0):=by
 have h1:s * f≤4294967295 * f:=Nat.mul_le_mul_right _ (by omega)
 constructor <;> omega
theorem tt_end {o v d c B B' r y bo:Nat} (hB:B' = B * 4294967296) (h:o+v = d+B * c) (e:r+c = y+4294967296 * bo):o+B * r+v = d+B * y+B' * bo:=by
 subst hB
 have e3:B * (r+c) = B * (y+4294967296 * bo):=by rw [e]
 rw [Nat.mul_add,Nat.mul_add,← Nat.mul_assoc] at e3
 omega
def TakeTo (B:Nat) (pre post d xs:List Nat) (f n:Nat) (w:World) (e:Ending) (w':World):Prop:=
 ∃ (out:List Nat) (bo:Bool),e = .returned (.bool bo)∧out.length = n+1∧Pl.Wf out∧Pl.val out+f * Pl.val xs = Pl.val d+4294967296 ^ (n+1) * bo.toNat∧Row w' B (pre ++ out ++ post)∧Only B w w'
theorem tt_e2 (y t:Nat) (hy:y < 4294967296) (h:(y:Int) < (t:Int) % 4294967296):((y:Int) - (t:Int)) % 4294967296 = ((y+4294967296 - t % 4294967296:Nat):Int):=by omega
theorem tt_e3 (y c:Nat) (hc:c < 4294967296) (h:(y:Int) < (c:Int)):((y:Int) - (c:Int)) % 4294967296 = ((y+4294967296 - c:Nat):Int):=by omega
theorem takeTimes_any (B p n b off cap cap' f:Nat) (pre d post xs:List Nat) (w:World) (hp:Hid (pre.length = p)) (hd:Hid (d.length = n+1)) (hx:Hid (xs.length = n)) (hlen:n≤20000) (hne:b≠B) (hf:f < 4294967296)
  (wd:Pl.Wf d) (wx:Pl.Wf xs) (hrow:Row w B (pre ++ d ++ post))
  (hc:∀ j,j < n→w.cell? ⟨b,off+j,none⟩ = some (.int .u32 ((xs[j]?.getD 0:Nat):Int))) :
  Calls Tryz.prog 104 #[.slice (some ⟨B,p,none⟩) (n+1) cap,.slice (some ⟨b,off,none⟩) n cap',.int .u32 (f:Int)] w
   (TakeTo B pre post d xs f n w):=by
 go_enter Tryz.func104,Tryz.ntmps104
 go_wp2
 go_loopw [7,15] (fun t i wr=>∃ (k c:Nat) (out:List Nat),k≤n∧i = .int .i64 k∧t = .int .u64 (c:Int)∧c≤f∧out.length = k∧Pl.Wf out ∧
   Pl.val out+f * Pl.val (xs.take k) = Pl.val (d.take k)+4294967296 ^ k * c∧Row wr B (pre ++ (out ++ d.drop k) ++ post)∧Only B w wr) (fun _ i _=>n - (intOf i).toNat)
 case atStart=>exact ⟨0,0,[],Nat.zero_le _,rfl,rfl,by omega,rfl,Pl.wf_nil,by simp [Pl.val],by simpa using hrow,Only.refl _ _⟩
 case round=>
  obtain ⟨k,c,out,hk,rfl,rfl,hcl,hol,how,hval,hr,honly⟩:=hrel
  have HVal:=hide hval
  clear hval
  have hpl:=unhide hp
  have hdl:=unhide hd
  have hxl:=unhide hx
  obtain ⟨y,hy⟩:∃ y,y = d[k]?.getD 0:=⟨_,rfl⟩
  have hy1:y < 4294967296:=by rw [hy]; exact Pl.wf_at wd k
  have hcd:wr.cell? ⟨B,p+k,none⟩ = some (.int .u32 (y:Int)):=by
   rw [hr.cell (p+k) (by simp; omega),← hpl,at_mid _ _ _ _ _ hol (by omega),hy]
  have hfz:wr.frozen? ⟨B,p+k,none⟩ = false:=hr.frozen _
  have HR:Hid (∀ v,Row (wr.setCell ⟨B,p+k,none⟩ (.int .u32 ((v:Nat):Int))) B (pre ++ ((out ++ [v]) ++ d.drop (k+1)) ++ post)):=fun v=>by
   have:=hr.set (p+k) v (by simp; omega)
   rw [← hpl] at this ⊢
   rwa [set_mid _ _ _ _ _ _ hol (by omega)] at this
  by_cases hlt:k < n
  ·obtain ⟨x,hxx⟩:∃ x,x = xs[k]?.getD 0:=⟨_,rfl⟩
   have hx1:x < 4294967296:=by rw [hxx]; exact Pl.wf_at wx k
   have hcx:wr.cell? ⟨b,off+k,none⟩ = some (.int .u32 (x:Int)):=by rw [hxx]; exact (honly.cell (by exact hne)).trans (hc k hlt)
   obtain ⟨t,ht⟩:∃ t,t = c+x * f:=⟨_,rfl⟩
   have hm0:=mul_lo x f
   have hm1:=mul_hi hx1 hf
   have hti:(c:Int)+(x:Int) * (f:Int) = (t:Int):=by rw [ht]; push_cast; rfl
   have ht1:t < 18446744073709551616:=by omega
   have hb2:=tt_bound hcl hx1 (by rw [← ht]; exact (Nat.div_add_mod t 4294967296).symm) (Nat.mod_lt _ (by decide))
   have HV:Hid (∀ r bo,r+t % 4294967296 = y+4294967296 * bo→Pl.val (out ++ [r])+f * Pl.val (xs.take (k+1)) = Pl.val (d.take (k+1))+4294967296 ^ (k+1) * (t / 4294967296+bo)):=fun r bo e=>by
    rw [Pl.val_append,Pl.val_one,hol,Pl.val_take_any d k,Pl.val_take_any xs k,← hy,← hxx]
    exact tt_step _ (Nat.pow_succ ..) (unhide HVal) ht (Nat.div_add_mod t 4294967296).symm e
   clear HVal hy hxx hr hpl hdl hxl hc ht
   by_cases hbo:y < t % 4294967296
   ·have hbi:(y:Int) < (t:Int) % 4294967296:=by omega
    clear hbo
    go_wp2
    go_roundw
    case rel=>
     have e1:(t:Int) / 4294967296+1 = ((t / 4294967296+1:Nat):Int):=by omega
     have e2:=tt_e2 y t hy1 hbi
     rw [e1,e2]
     exact ⟨k+1,t / 4294967296+1,out ++ [y+4294967296 - t % 4294967296],by omega,by go_num,rfl,by omega,by simp [hol],Pl.wf_append how (Pl.wf_one (by omega)),unhide HV _ 1 (by omega),unhide HR _,honly.setCell _ _⟩
    case measure=>simp [intOf]; omega
   ·have hbi:(t:Int) % 4294967296≤(y:Int):=by omega
    clear hbo
    go_wp2
    go_roundw
    case rel=>
     have e1:(t:Int) / 4294967296 = ((t / 4294967296:Nat):Int):=by omega
     have e2:(y:Int) - (t:Int) % 4294967296 = ((y - t % 4294967296:Nat):Int):=by omega
     rw [e1,e2]
     exact ⟨k+1,t / 4294967296,out ++ [y - t % 4294967296],by omega,by go_num,rfl,hb2.1,by simp [hol],Pl.wf_append how (Pl.wf_one (by omega)),unhide HV _ 0 (by omega),unhide HR _,honly.setCell _ _⟩
    case measure=>simp [intOf]; omega
  ·have hke:k = n:=by omega
   subst hke
   have hxt:xs.take k = xs:=List.take_of_length_le (by omega)
   have hdt:d.take (k+1) = d:=List.take_of_length_le (by omega)
   have HV:Hid (∀ r (bo:Bool),r+c = y+4294967296 * bo.toNat→Pl.val (out ++ [r])+f * Pl.val xs = Pl.val d+4294967296 ^ (k+1) * bo.toNat):=fun r bo e=>by
    have hd2:Pl.val d = Pl.val (d.take k)+4294967296 ^ k * y:=by
     have:=Pl.val_take_any d k
     rw [hdt,← hy] at this
     exact this
    rw [Pl.val_append,Pl.val_one,hol,hd2]
    have hval:=unhide HVal
    rw [hxt] at hval
    exact tt_end (Nat.pow_succ ..) hval e
   have HD:Hid (d.drop (k+1) = []):=List.drop_eq_nil_of_le (by omega)
   clear HVal hy hr hpl hdl hxl hc hxt hdt
   by_cases hbo:y < c
   ·have hbi:(y:Int) < (c:Int):=by omega
    clear hbo
    go_wp2
    go_ret
    have e2:=tt_e3 y c (by omega) hbi
    rw [e2]
    have hR:=unhide HR (y+4294967296 - c)
    rw [unhide HD,List.append_nil] at hR
    exact ⟨out ++ [y+4294967296 - c],true,rfl,by simp [hol],Pl.wf_append how (Pl.wf_one (by omega)),unhide HV _ true (by simp; omega),hR,honly.setCell _ _⟩
   ·have hbi:¬ (y:Int) < (c:Int):=by omega
    clear hbo
    go_wp2
    go_ret
    have e2:(y:Int) - (c:Int) = ((y - c:Nat):Int):=by omega
    rw [e2]
    have hR:=unhide HR (y - c)
    rw [unhide HD,List.append_nil] at hR
    exact ⟨out ++ [y - c],false,rfl,by simp [hol],Pl.wf_append how (Pl.wf_one (by omega)),unhide HV _ false (by simp; omega),hR,honly.setCell _ _⟩
theorem Det.step {ops:Array Oper} {ds:Puts} {T0:Array Value} {l:Array Bool} {t:Array Value} {i:Nat} (hD:Det ops ds T0 l t) (ha:Puts.apart ds = true) (hw:Puts.within ds T0.size = true) (hi:i∈Region.ready .any ops l) (hl:l[i]? = some false) :
  Det ops ds T0 (l.setIfInBounds i true) (putD (ds[i]?.getD none) t):=by
 obtain ⟨hlt,-⟩:=Array.getElem?_eq_some_iff.1 hl
 have hset:∀ k,(l.setIfInBounds i true)[k]? = some true↔(k = i∨l[k]? = some true):=by
  intro k
  by_cases hk:k = i
  ·subst hk; simp [hlt]
  ·rw [Array.getElem?_setIfInBounds_ne (Ne.symm hk)]; simp [hk]
 constructor
 ·rw [Array.size_setIfInBounds]; exact hD.len
 ·rw [← hD.size]
  cases hd:ds[i]?.getD none with
  | none=>rfl
  | some d=>obtain ⟨s,v⟩:=d; simp [putD]
 ·intro k s v hk hlk
  rcases (hset k).1 hlk with rfl|hlk9
  ·rw [hk]
   have hs:s < t.size:=by rw [hD.size]; simpa using List.all_eq_true.1 hw _ (List.mem_of_getElem? hk)
   simp [putD,hs]
  ·cases hd:ds[i]?.getD none with
   | none=>exact hD.on k s v hk hlk9
   | some d=>
    obtain ⟨s',v'⟩:=d
    have hd':ds[i]? = some (some (s',v')):=by
     cases hx:ds[i]? with
     | none=>rw [hx] at hd; simp at hd
     | some y=>rw [hx] at hd; simp at hd; rw [hd]
    have hne:s'≠s:=by
     intro e; subst e
     obtain rfl:=Puts.one ha hk hd'
     rw [hl] at hlk9; cases hlk9
    rw [putD,Array.getElem?_setIfInBounds_ne hne]
    exact hD.on k s v hk hlk9
 ·intro s hs
  cases hd:ds[i]?.getD none with
  | none=>exact hD.off s (fun k v hk hlk=>hs k v hk ((hset k).2 (Or.inr hlk)))
  | some d=>
   obtain ⟨s',v'⟩:=d
   have hd':ds[i]? = some (some (s',v')):=by
    cases hx:ds[i]? with
    | none=>rw [hx] at hd; simp at hd
    | some y=>rw [hx] at hd; simp at hd; rw [hd]
   have hne:s'≠s:=by
    intro e; subst e
    exact hs i v' hd' ((hset i).2 (Or.inl rfl))
   rw [putD,Array.getElem?_setIfInBounds_ne hne]
   exact hD.off s (fun k v hk hlk=>hs k v hk ((hset k).2 (Or.inr hlk)))
 ·intro k o hlk ho e he hbe
  rcases (hset k).1 hlk with rfl|hlk
  ·obtain ⟨o',ho',hd'⟩:=(mem_ready.1 hi).2
   rw [ho] at ho'
   cases ho'
   exact true_getD ((hset _).2 (Or.inr (getD_true (hd' e he hbe))))
  ·exact true_getD ((hset _).2 (Or.inr (getD_true (hD.shut k o hlk ho e he hbe))))
end Go.Proofs.YtcfccblpcngeaaaGreat
