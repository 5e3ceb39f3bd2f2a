/- Of what NearRoundsRow stands on: CmpN RWork PutNum RState RReg0 NrAl RChain. -/
import Derived.Test.YtaidedkpfnidpaaGreatDoorPan
import Derived.Test.YtaidedkpfnidpaaGreatDoorPao
import Derived.Test.YtaidedkpfnidpaaGreatDoorPak
import Derived.Test.YtaidedkpfnidpaaGreatDoorPap
namespace Go.Proofs.YtaidedkpfnidpaaGreatDoor
open Go.RowKit
set_option maxHeartbeats 400000
theorem Cm(a a':Option Addr)(n n' cap cap' m m':Nat)(w:World)(h:Num w a n m)(h':Num w a' n' m') :
  Calls Tryz.prog 121 #[.agg #[.slice a n cap],.agg #[.slice a' n' cap']] w fun e w'=>e = .returned (.tuple #[.int .i64 (bW m m'),.int .i64 0])∧Below w.heap.size w w':=by
 have HK:=hide (fun (o1 o2:Obj)=>iQ a a' n n' cap cap' m m' ((w.alloc o1).alloc o2) ((h.alloc _).alloc _) ((h'.alloc _).alloc _));have H:=hide (And.intro h h');clear h h';go_enter Tryz.func121,Tryz.ntmps121
 go_wp2_with fail
 refine (aa HK _ _).mono ?_;rintro e w1 ⟨rfl,hb1⟩;obtain ⟨hc1,hf1⟩:=bO hb1;have HB:=hide (ai (ai (ah w (.cells #[.slice a n cap] 27)) (ah _ (.cells #[.slice a' n' cap'] 27))) hb1);clear hb1;go_wp2_with fail
 refine (bZ a a' n n' cap cap' m m' w1 ((aa H).1.kept (aa HB)) ((aa H).2.kept (aa HB))).mono ?_;rintro e w2 ⟨rfl,hb2⟩;go_wp2
 go_ret2
 exact ⟨rfl,ai (aa HB) hb2⟩
theorem But.trans{p:Nat}{a b c:World}(h:But p a b)(k:But p b c):But p a c:=
 ⟨k.os.trans h.os,k.tape.trans h.tape,k.output.trans h.output,Nat.le_trans h.size k.size,fun i hi hp=>(k.block i (Nat.lt_of_lt_of_le hi h.size) hp).trans (h.block i hi hp)⟩
theorem But.set{p:Nat}{w w':World}(h:But p w w')(j:Nat)(u:Value):But p w (w'.setCell ⟨p,j,none⟩ u):=
 ⟨h.os,h.tape,h.output,by simpa [World.setCell] using h.size,fun k hk hp=>(heap_setCell_other w' _ k u hp).trans (h.block k hk hp)⟩
theorem But.drew{p:Nat}{w w':World}(h:But p w w'):But p w w'.drew:=⟨h.os,h.tape,h.output,h.size,h.block⟩
def Wk(w:World)(p:Nat)(e:Int):Prop:=∃t,t≠42∧w.heap[p]? = some (.cells #[.int .i64 e] t (0,0))
theorem Wk.lt{w:World}{p:Nat}{e:Int}(h:Wk w p e):p<w.heap.size:=by
 obtain ⟨t,_,h⟩:=h;by_cases hlt:p<w.heap.size
 ·exact hlt
 ·rw [Array.getElem?_eq_none (by omega)] at h;cases h
theorem Wk.cell{w:World}{p:Nat}{e:Int}(h:Wk w p e):w.cell? ⟨p,0,none⟩=some (.int .i64 e):=by
 obtain ⟨t,_,h⟩:=h;rw [cell_of_row w p 0 _ _ _ h];rfl
theorem Wk.frozen{w:World}{p:Nat}{e:Int}(h:Wk w p e):w.frozen? ⟨p,0,none⟩=false:=by
 obtain ⟨t,_,h⟩:=h;exact frozen_of_row w p 0 _ _ h
theorem Wk.kept{w w':World}{p:Nat}{e:Int}(h:Wk w p e)(hb:Below w.heap.size w w'):Wk w' p e:=by
 have hl:=h.lt;obtain ⟨t,ht,h⟩:=h;exact ⟨t,ht,by rw [hb.block p hl];exact h⟩
theorem Wk.alloc{w:World}{p:Nat}{e:Int}(h:Wk w p e)(o:Obj):Wk (w.alloc o) p e:=h.kept (ah _ _)
theorem Wk.set{w:World}{p:Nat}{e:Int}(h:Wk w p e)(u:Int):Wk (w.setCell ⟨p,0,none⟩ (.int .i64 u)) p u:=by
 obtain ⟨t,ht,h⟩:=h;exact ⟨t,ht,by rw [heap_setCell_same w p 0 _ _ _ h];rfl⟩
theorem Wk.other{w:World}{p:Nat}{e:Int}(h:Wk w p e){q:Addr}(hne:p≠q.block)(u:Value):Wk (w.setCell q u) p e:=by
 obtain ⟨t,ht,h⟩:=h;exact ⟨t,ht,by rw [heap_setCell_other w q p u hne];exact h⟩
theorem Wk.made(w:World)(e:Int)(t:TypeId)(ht:t≠42:=by decide):Wk (w.alloc (.cells #[.int .i64 e] t)) w.heap.size e:=⟨t,ht,heap_alloc_new w _⟩
theorem Wk.drew{w:World}{p:Nat}{e:Int}(h:Wk w p e):Wk w.drew p e:=h
theorem bE.but{w w':World}{p:Nat}{e:Int}{a:Option Addr}{xs:List Nat}(h:bE w a xs)(hk:Wk w p e)(hb:But p w w'):bE w' a xs:=by
 rcases h.parts with h|⟨hp,b,off,ha,hlt,hc⟩
 ·exact Or.inl h
 ·have hne:b≠p:=by
   rintro rfl;have h0:=hc 0 hp;obtain ⟨t,_,hk⟩:=hk;rw [cell_of_row w b (off+0) _ _ _ hk] at h0;by_cases hz:off+0=0
   ·rw [hz] at h0;simp at h0
   ·rw [Array.getElem?_eq_none (by simp;omega)] at h0;cases h0
  refine Or.inr ⟨b,off,ha,fun j hj=>?_⟩;rw [World.cell?_of_block (w:=w) (hb.block b hlt hne)];exact hc j hj
theorem Num.but{w w':World}{p:Nat}{e:Int}{a:Option Addr}{n m:Nat}(h:Num w a n m)(hk:Wk w p e)(hb:But p w w'):Num w' a n m:=by
 obtain ⟨xs,hn,hl,r⟩:=h;exact ⟨xs,hn,hl.but hk hb,r⟩
theorem Own.but{w w':World}{base p:Nat}{e:Int}{v:Value}{xs:List Nat}(h:Own w base v xs)(hk:Wk w p e)(hb:But p w w'):Own w' base v xs:=by
 rcases h with h|⟨g,cap,cur,rfl,hg,hh,r⟩
 ·exact Or.inl h
 ·have hlt:g<w.heap.size:=by
   by_cases hlt:g<w.heap.size
   ·exact hlt
   ·rw [Array.getElem?_eq_none (by omega)] at hh;cases hh
  have hne:g≠p:=by
   rintro rfl;obtain ⟨t,ht,hk⟩:=hk;rw [hh] at hk;injection hk with hk
   injection hk with _ hk
   exact ht hk.symm
  exact Or.inr ⟨g,cap,cur,rfl,hg,by rw [hb.block g hlt hne];exact hh,r⟩
theorem Mine.but{w w':World}{base p:Nat}{e:Int}{a:Option Addr}{n cap m:Nat}(h:Mine w base a n cap m)(hk:Wk w p e)(hb:But p w w'):Mine w' base a n cap m:=by
 obtain ⟨xs,hn,ho,r⟩:=h;exact ⟨xs,hn,ho.but hk hb,r⟩
def Kp(e0 e:Int):Int:=if e0=0 then e else e0
theorem Kp.ok{e0 e:Int}(h:Kp e0 e=0):e0=0∧e=0:=by
 unfold Kp at h;split at h
 ·exact ⟨‹_›,h⟩
 ·exact absurd h ‹_›
theorem Kp.zero(e:Int):Kp 0 e=e:=by simp [Kp]
theorem Kp.same(e0:Int):Kp e0 0=e0:=by unfold Kp;split<;>simp_all
def Jo(e:Int)(Q R m d:Nat):Prop:=(d=0∧e=11∧Q=0∧R=0)∨(0<d∧e=0∧Q=m/d∧R=m%d)
def bM(l:List Value):Prop:=∀v,v∈l→∀z,v≠.int .u32 z
def eQ:List Value→Bool
 | []=>true
 | .int .u32 _::_=>false
 | _::r=>eQ r
theorem bD:∀(l:List Value),eQ l=true→bM l
 | [],_=>fun _ h=>nomatch h
 | v::r,h=>by
  have hr:eQ r=true∧∀z,v≠.int .u32 z:=by
   unfold eQ at h
   split at h
   ·rename_i e;cases e
   ·cases h
   ·rename_i x y hx hy
    injection hy with e1 e2
    subst e1;subst e2;exact ⟨h,fun z e=>hx z e⟩
  intro u hu z;rcases List.mem_cons.1 hu with rfl|hu
  ·exact hr.2 z
  ·exact bD r hr.1 u hu z
theorem bE.put{W:World}{a:Option Addr}{xs:List Nat}(h:bE W a xs){b:Nat}{cs:Array Value}{t:TypeId}(hb:W.heap[b]? = some (.cells cs t (0,0)))(hl:bM cs.toList)(j:Nat)(u:Value):bE (W.setCell ⟨b,j,none⟩ u) a xs:=by
 rcases h.parts with h|⟨hp,g,off,ha,hlt,hc⟩
 ·exact Or.inl h
 ·have hne:g≠b:=by
   rintro rfl;have h0:=hc 0 hp;rw [cell_of_row W g (off+0) _ _ _ hb] at h0;have h1:Value.int .u32 ((xs[0]?.getD 0:Nat):Int)∈cs.toList:=by
    have:=Array.mem_of_getElem? h0;exact Array.mem_def.1 this
   exact hl _ h1 _ rfl
  refine Or.inr ⟨g,off,ha,fun j' hj=>?_⟩;rw [World.cell?_of_block (w:=W) (heap_setCell_other W _ g u hne)];exact hc j' hj
theorem Num.put{W:World}{a:Option Addr}{n m:Nat}(h:Num W a n m){b:Nat}{cs:Array Value}{t:TypeId}(hb:W.heap[b]? = some (.cells cs t (0,0)))(hl:bM cs.toList)(j:Nat)(u:Value):Num (W.setCell ⟨b,j,none⟩ u) a n m:=by
 obtain ⟨xs,hn,hl',r⟩:=h;exact ⟨xs,hn,hl'.put hb hl j u,r⟩
theorem Mine.put{W:World}{base:Nat}{a:Option Addr}{n c m:Nat}(h:Mine W base a n c m){b:Nat}{cs:Array Value}{t:TypeId}(hb:W.heap[b]? = some (.cells cs t (0,0)))(ht:t≠42)(j:Nat)(u:Value):Mine (W.setCell ⟨b,j,none⟩ u) base a n c m:=by
 obtain ⟨xs,hn,ho,r⟩:=h;refine ⟨xs,hn,?_,r⟩;rcases ho with ho|⟨g,cap,cur,e,hg,hh,q⟩
 ·exact Or.inl ho
 ·have hne:g≠b:=by
   rintro rfl;rw [hh] at hb;injection hb with hb
   injection hb with _ hb
   exact ht hb.symm
  exact Or.inr ⟨g,cap,cur,e,hg,by rw [heap_setCell_other W _ g u hne];exact hh,q⟩
def JS(k:Option (Nat×Int))(w W:World):Prop:=match k with
 | none=>Below w.heap.size w W
 | some (p,_)=>But p w W
def JO(k:Option (Nat×Int))(W:World):Prop:=match k with
 | none=>True
 | some (p,e)=>Wk W p e
def JU(k:Option (Nat×Int))(b:Nat):Prop:=match k with
 | none=>True
 | some (p,_)=>b≠p
structure Rs(w0 W:World)(k:Option (Nat×Int))(bs:List En)(ms:List (Option Addr×Nat×Nat))(os:List (Option Addr×Nat×Nat×Nat)):Prop where
 wk:JO k W
 bx:∀x,x∈bs→W.heap[x.b]? = some (.cells x.cs x.t (0,0))∧JU k x.b∧x.t≠42∧bM x.cs.toList
 nm:∀x,x∈ms→Num W x.1 x.2.1 x.2.2
 ow:∀x,x∈os→Mine W w0.heap.size x.1 x.2.1 x.2.2.1 x.2.2.2
 fr:JS k w0 W
theorem Rs.size{w0 W:World}{k:Option (Nat×Int)}{bs:List En}{ms:List (Option Addr×Nat×Nat)}{os:List (Option Addr×Nat×Nat×Nat)}(h:Rs w0 W k bs ms os):w0.heap.size≤W.heap.size:=by
 have:=h.fr
 match k,this with
 | none,h=>exact h.size
 | some (_,_),h=>exact h.size
theorem Rs.begin(w:World):Rs w w none [] [] []:=⟨trivial,(fun _ h=>nomatch h),(fun _ h=>nomatch h),(fun _ h=>nomatch h),Below.refl _ _⟩
theorem Rs.kept{w0 W W':World}{k:Option (Nat×Int)}{bs:List En}{ms:List (Option Addr×Nat×Nat)}{os:List (Option Addr×Nat×Nat×Nat)}(h:Rs w0 W k bs ms os)(hb:Below W.heap.size W W'):Rs w0 W' k bs ms os:=by
 have hs:=h.size;refine ⟨?_,fun x hx=>?_,fun x hx=>(h.nm x hx).kept hb,fun x hx=>(h.ow x hx).kept hb,?_⟩
 ·have:=h.wk
  match k,this with
  | none,_=>trivial
  | some (_,_),h=>exact Wk.kept h hb
 ·obtain ⟨h1,h2⟩:=h.bx x hx;exact ⟨by rw [hb.block _ (block_lt h1)];exact h1,h2⟩
 ·have:=h.fr
  match k,this with
  | none,h=>exact ai h hb
  | some (_,_),h=>exact But.trans h (But.of hb)
theorem Rs.call{w0 W W':World}{p:Nat}{e e':Int}{bs:List En}{ms:List (Option Addr×Nat×Nat)}{os:List (Option Addr×Nat×Nat×Nat)}(h:Rs w0 W (some (p,e)) bs ms os)(hb:But p W W')(hk:Wk W' p e'):Rs w0 W' (some (p,e')) bs ms os:=by
 have hk0:Wk W p e:=h.wk;refine ⟨hk,fun x hx=>?_,fun x hx=>(h.nm x hx).but hk0 hb,fun x hx=>(h.ow x hx).but hk0 hb,But.trans h.fr hb⟩;obtain ⟨h1,h2,h3⟩:=h.bx x hx;exact ⟨by rw [hb.block _ (block_lt h1) h2];exact h1,h2,h3⟩
theorem Rs.alloc{w0 W:World}{k:Option (Nat×Int)}{bs:List En}{ms:List (Option Addr×Nat×Nat)}{os:List (Option Addr×Nat×Nat×Nat)}(h:Rs w0 W k bs ms os)(cs:Array Value)(t:TypeId)(ht:t≠42:=by decide)(hl:eQ cs.toList=true:=by rfl):Rs w0 (W.alloc (.cells cs t)) k (⟨W.heap.size,cs,t⟩::bs) ms os:=by
 have h':=h.kept (ah W (.cells cs t));refine ⟨h'.wk,fun x hx=>?_,h'.nm,h'.ow,h'.fr⟩;rcases List.mem_cons.1 hx with rfl|hx
 ·refine ⟨heap_alloc_new W _,?_,ht,bD _ hl⟩;have:=h.wk
  match k,this with
  | none,_=>trivial
  | some (p,_),hk=>exact fun e=>by have:=Wk.lt hk;simp only at e;omega
 ·exact h'.bx x hx
theorem Rs.num{w0 W:World}{k:Option (Nat×Int)}{bs:List En}{ms:List (Option Addr×Nat×Nat)}{os:List (Option Addr×Nat×Nat×Nat)}(h:Rs w0 W k bs ms os){a:Option Addr}{n m:Nat}(hn:Num W a n m):Rs w0 W k bs ((a,n,m)::ms) os:=
 ⟨h.wk,h.bx,fun x hx=>by rcases List.mem_cons.1 hx with rfl|hx;exact hn;exact h.nm x hx,h.ow,h.fr⟩
theorem Rs.own{w0 W:World}{k:Option (Nat×Int)}{bs:List En}{ms:List (Option Addr×Nat×Nat)}{os:List (Option Addr×Nat×Nat×Nat)}(h:Rs w0 W k bs ms os){a:Option Addr}{n c m base:Nat}(hn:Mine W base a n c m)(hb:w0.heap.size≤base):Rs w0 W k bs ms ((a,n,c,m)::os):=
 ⟨h.wk,h.bx,h.nm,fun x hx=>by rcases List.mem_cons.1 hx with rfl|hx;exact hn.mono hb;exact h.ow x hx,h.fr⟩
theorem Rs.drew{w0 W:World}{k:Option (Nat×Int)}{bs:List En}{ms:List (Option Addr×Nat×Nat)}{os:List (Option Addr×Nat×Nat×Nat)}(h:Rs w0 W k bs ms os):Rs w0 W.drew k bs ms os:=by
 refine ⟨?_,h.bx,h.nm,h.ow,?_⟩
 ·have:=h.wk
  match k,this with
  | none,_=>trivial
  | some (_,_),h=>exact h
 ·have:=h.fr
  match k,this with
  | none,h=>exact Below.drew h
  | some (_,_),h=>exact But.drew h
theorem Rs.cells{w0 W:World}{k:Option (Nat×Int)}{bs:List En}{ms:List (Option Addr×Nat×Nat)}{os:List (Option Addr×Nat×Nat×Nat)}(h:Rs w0 W k bs ms os):Dc W bs:=sQ bs (fun x hx=>(h.bx x hx).1)
theorem Rs.frozen{w0 W:World}{k:Option (Nat×Int)}{bs:List En}{ms:List (Option Addr×Nat×Nat)}{os:List (Option Addr×Nat×Nat×Nat)}(h:Rs w0 W k bs ms os){x:En}(hx:x∈bs)(j:Nat):W.frozen? ⟨x.b,j,none⟩=false:=frozen_of_row W x.b j _ _ (h.bx x hx).1
theorem Rs.cz{w0 W:World}{k:Option (Nat×Int)}{bs:List En}{ms:List (Option Addr×Nat×Nat)}{os:List (Option Addr×Nat×Nat×Nat)}(h:Rs w0 W k bs ms os)(x:En)(hx:x∈bs):wJ W x.b 0 x.cs.toList∧∀j,W.frozen? ⟨x.b,j,none⟩=false:=⟨pR (h.bx x hx).1 _ 0 rfl,fun j=>h.frozen hx j⟩
theorem nb{p:Prop}(h:false=true):p:=Bool.noConfusion h
theorem Rs.put{w0 W:World}{k:Option (Nat×Int)}{bs:List En}{ms:List (Option Addr×Nat×Nat)}{os:List (Option Addr×Nat×Nat×Nat)}(h:Rs w0 W k bs ms os){x:En}(hx:x∈bs)(hw:w0.heap.size≤x.b)(j:Nat)(u:Value)(hu:∀z,u≠.int .u32 z)(bs':List En)(hbs:∀y,y∈bs'→y=⟨x.b,x.cs.setIfInBounds j u,x.t⟩∨(y∈bs∧y.b≠x.b)):Rs w0 (W.setCell ⟨x.b,j,none⟩ u) k bs' ms os:=by
 obtain ⟨h1,h2,h3,h4⟩:=h.bx x hx;refine ⟨?_,fun y hy=>?_,fun y hy=>(h.nm y hy).put h1 h4 j u,fun y hy=>(h.ow y hy).put h1 h3 j u,?_⟩
 ·have:=h.wk
  match k,this,h2 with
  | none,_,_=>trivial
  | some (q,_),hk,h2=>exact Wk.other hk (show q≠x.b from Ne.symm (show x.b≠q from h2)) u
 ·rcases hbs y hy with rfl|⟨hy,hne⟩
  ·refine ⟨heap_setCell_same W x.b j _ _ _ h1,h2,h3,?_⟩;intro v hv z;simp only [Array.toList_setIfInBounds] at hv;rcases List.mem_or_eq_of_mem_set hv with hv|rfl
   ·exact h4 v hv z
   ·exact hu z
  ·obtain ⟨q1,q2⟩:=h.bx y hy;exact ⟨by rw [heap_setCell_other W _ y.b u hne];exact q1,q2⟩
 ·have:=h.fr
  match k,this with
  | none,h=>exact Below.setCell h hw u
  | some (_,_),h=>exact But.setCell h hw u
abbrev Ms:=List (Option Addr×Nat×Nat)
abbrev Os:=List (Option Addr×Nat×Nat×Nat)
theorem Rs.sub{w0 W:World}{k:Option (Nat×Int)}{bs bs':List En}{ms ms':Ms}{os os':Os}(h:Rs w0 W k bs ms os)(hb:∀x,x∈bs'→x∈bs)(hm:∀x,x∈ms'→x∈ms)(ho:∀x,x∈os'→x∈os):Rs w0 W k bs' ms' os':=
 ⟨h.wk,fun x hx=>h.bx x (hb x hx),fun x hx=>h.nm x (hm x hx),fun x hx=>h.ow x (ho x hx),h.fr⟩
structure Rc(w0:World)(S0:Nat)(bs:List En)(ms:Ms)(os:Os)(k:Option (Nat×Int))(bs':List En)(os':Os)(w':World):Prop where
 st:Rs w0 w' k bs' ms os'
 sz:S0≤w'.heap.size
 old:∀x,x∈bs→x∈bs'∧x.b<S0
 oso:∀y,y∈os→y∈os'
 w0s:w0.heap.size≤S0
theorem Rc.start{w0 W:World}{k:Option (Nat×Int)}{bs bs1:List En}{ms:Ms}{os:Os}(h:Rs w0 W k bs1 ms os)(hb:∀x,x∈bs→x∈bs1):Rc w0 W.heap.size bs ms os k bs1 os W:=
 ⟨h,Nat.le_refl _,fun x hx=>⟨hb x hx,block_lt (h.bx x (hb x hx)).1⟩,fun _ h=>h,h.size⟩
theorem Rs.cellAt{w0 W:World}{k:Option (Nat×Int)}{bs:List En}{ms:Ms}{os:Os}(h:Rs w0 W k bs ms os){x:En}(hx:x∈bs)(j:Nat)(v:Value)(hv:x.cs[j]? = some v):W.cell? ⟨x.b,j,none⟩=some v:=by
 rw [cell_of_row W x.b j _ _ _ (h.bx x hx).1];exact hv
theorem Rc.alloc{w0:World}{S0:Nat}{bs:List En}{ms:Ms}{os:Os}{k:Option (Nat×Int)}{bs':List En}{os':Os}{w':World}(h:Rc w0 S0 bs ms os k bs' os' w')(cs:Array Value)(t:TypeId)(ht:t≠42:=by decide)(hl:eQ cs.toList=true:=by rfl) :
  Rc w0 S0 bs ms os k (⟨w'.heap.size,cs,t⟩::bs') os' (w'.alloc (.cells cs t)):=
 ⟨h.st.alloc cs t ht hl,by have:=h.sz;simp only [World.size_alloc];omega,fun x hx=>⟨List.mem_cons_of_mem _ (h.old x hx).1,(h.old x hx).2⟩,h.oso,h.w0s⟩
theorem Rc.call{w0:World}{S0:Nat}{bs:List En}{ms:Ms}{os:Os}{k k2:Option (Nat×Int)}{bs':List En}{os' os2:Os}{w' W:World}(h:Rc w0 S0 bs ms os k bs' os' w')(hs:Rs w0 W k2 bs' ms os2)(hz:w'.heap.size≤W.heap.size)(ho:∀y,y∈os'→y∈os2):Rc w0 S0 bs ms os k2 bs' os2 W:=
 ⟨hs,Nat.le_trans h.sz hz,h.old,fun y hy=>ho y (h.oso y hy),h.w0s⟩
theorem Rc.store{w0:World}{S0:Nat}{bs:List En}{ms:Ms}{os:Os}{k:Option (Nat×Int)}{bs':List En}{os':Os}{w':World}(h:Rc w0 S0 bs ms os k bs' os' w'){g:Nat}{cs:Array Value}{t:TypeId}(hx:(⟨g,cs,t⟩:En)∈bs')(hw:w0.heap.size≤g)(hg:∀x,x∈bs→x.b≠g)(j:Nat)(u:Value)(hu:∀z,u≠.int .u32 z) :
  Rc w0 S0 bs ms os k (⟨g,cs.setIfInBounds j u,t⟩::bs'.filter (fun y=>y.b≠g)) os' (w'.setCell ⟨g,j,none⟩ u):=by
 refine ⟨h.st.put hx hw j u hu _ (fun y hy=>?_),by have:=h.sz;simpa [World.setCell] using this,fun x hx'=>⟨List.mem_cons_of_mem _ (List.mem_filter.2 ⟨(h.old x hx').1,by simpa using hg x hx'⟩),(h.old x hx').2⟩,h.oso,h.w0s⟩;rcases List.mem_cons.1 hy with rfl|hy
 ·exact Or.inl rfl
 ·have:=List.mem_filter.1 hy;exact Or.inr ⟨this.1,by simpa using this.2⟩
def upward(ops:Array Oper):Bool:=(List.range ops.size).all fun i=>match ops[i]? with
 | none=>true
 | some o=>o.after.all fun e=>!(Region.binds .any e)||decide (e.on<i)
theorem BU{ops:Array Oper}{l:Array Bool}(hr:Region.ready .any ops l = [])(hu:upward ops=true)(hl:l.size=ops.size):∀i,i<ops.size→l.getD i true=true:=by
 intro i;induction i using Nat.strongRecOn with
 | ind i ih=>
  intro hi;refine ready_nil (i:=i) (o:=ops[i]) hr (Array.getElem?_eq_getElem hi) (fun e he hb=>?_);have h:=List.all_eq_true.1 hu i (List.mem_range.2 hi);rw [Array.getElem?_eq_getElem hi] at h;have h2:=Array.all_eq_true'.1 h e he;rw [hb] at h2;have h3:e.on<i:=by simpa using h2
  have h4:=ih e.on h3 (by omega);have hs:e.on<l.size:=by omega
  rw [Array.getD_eq_getD_getElem?] at h4 ⊢;rw [Array.getElem?_eq_getElem hs] at h4 ⊢;exact h4
def lu(bs':List En)(S0:Nat)(v:Value)(t:TypeId)(n:Nat):Prop:=∃g cs,v = .pointer (some ⟨g,0,none⟩)∧S0≤g∧cs.size=n∧(⟨g,cs,t⟩:En)∈bs'
def rR(bs':List En)(S0:Nat)(v:Value)(cs:Array Value)(t:TypeId):Prop:=∃g,v = .pointer (some ⟨g,0,none⟩)∧S0≤g∧(⟨g,cs,t⟩:En)∈bs'
theorem lu.self{bs':List En}{S0 g n:Nat}{v:Value}{cs:Array Value}{t:TypeId}(h:v = .pointer (some ⟨g,0,none⟩))(hg:S0≤g)(hn:cs.size=n):lu ((⟨g,cs,t⟩:En)::bs') S0 v t n:=⟨g,cs,h,hg,hn,List.mem_cons_self ..⟩
theorem lu.cons{bs':List En}{S0 n:Nat}{v:Value}{t:TypeId}(h:lu bs' S0 v t n)(y:En):lu (y::bs') S0 v t n:=by
 obtain ⟨g,cs,h1,h2,h3,h4⟩:=h;exact ⟨g,cs,h1,h2,h3,List.mem_cons_of_mem _ h4⟩
theorem Rs.more{w0 W W':World}{p n c M:Nat}{e r:Int}{a:Option Addr}{bs:List En}{ms:Ms}{os:Os}(hS:Rs w0 W (some (p,e)) bs ms os)(hm:Mine W' W.heap.size a n c M)(hk:Wk W' p r)(hb:But p W W'):Rs w0 W' (some (p,r)) bs ms ((a,n,c,M)::os):=
 (hS.call hb hk).own hm hS.size
structure Wd(e e':Int)(Q R m d:Nat):Prop where
 ok:e'=0→e=0∧Q=m/d∧R=m%d∧0<d
 zero:e=0→e'≠0→d=0
 stay:e≠0→e'=e
theorem Wd.of{e r:Int}{Q R m d:Nat}(h:Jo r Q R m d):Wd e (Kp e r) Q R m d:=by
 refine ⟨fun h0=>?_,fun h0 h1=>?_,fun h0=>by rw [Kp,if_neg h0]⟩
 ·obtain ⟨e1,e2⟩:=Kp.ok h0;rcases h with ⟨_,h,_⟩|⟨h0,_,h1,h2⟩
  ·omega
  ·exact ⟨e1,h1,h2,h0⟩
 ·subst h0;rw [Kp.zero] at h1;rcases h with ⟨h,_⟩|⟨_,h,_⟩
  ·exact h
  ·exact absurd h h1
theorem II{w0 W:World}{k:Option (Nat×Int)}{bs:List En}{ms:Ms}{os:Os}(hS:Rs w0 W k bs ms os){f:Nat}{vs:Array Value}{M:Nat}{T:Option Addr→Nat→Nat→Value}(h:Calls Tryz.prog f vs W fun en W'=>(∃a n c,en = .returned (T a n c)∧Mine W' W.heap.size a n c M)∧Below W.heap.size W W') :
  Calls Tryz.prog f vs W (fun en W'=>∃a n c,en = .returned (T a n c)∧Rs w0 W' k bs ms ((a,n,c,M)::os)∧W.heap.size≤W'.heap.size):=by
 refine h.mono ?_;rintro en W' ⟨⟨a,n,c,rfl,hm⟩,hb⟩;exact ⟨a,n,c,rfl,(hS.kept hb).own hm hS.size,hb.size⟩
theorem lu.but{bs':List En}{S0 n:Nat}{v:Value}{t:TypeId}(h:lu bs' S0 v t n){g:Nat}(hne:v≠.pointer (some ⟨g,0,none⟩))(y:En):lu (y::bs'.filter (fun y=>y.b≠g)) S0 v t n:=by
 obtain ⟨g',cs,h1,h2,h3,h4⟩:=h;exact ⟨g',cs,h1,h2,h3,List.mem_cons_of_mem _ (List.mem_filter.2 ⟨h4,by simp only [ne_eq,decide_not,Bool.not_eq_eq_eq_not,Bool.not_true,decide_eq_false_iff_not];intro e;exact hne (by rw [h1,e])⟩)⟩
theorem rR.but{bs':List En}{S0:Nat}{v:Value}{cs:Array Value}{t:TypeId}(h:rR bs' S0 v cs t){g:Nat}(hne:v≠.pointer (some ⟨g,0,none⟩))(y:En):rR (y::bs'.filter (fun y=>y.b≠g)) S0 v cs t:=by
 obtain ⟨g',h1,h2,h4⟩:=h;exact ⟨g',h1,h2,List.mem_cons_of_mem _ (List.mem_filter.2 ⟨h4,by simp only [ne_eq,decide_not,Bool.not_eq_eq_eq_not,Bool.not_true,decide_eq_false_iff_not];intro e;exact hne (by rw [h1,e])⟩)⟩
theorem rR.cons{bs':List En}{S0:Nat}{v:Value}{cs:Array Value}{t:TypeId}(h:rR bs' S0 v cs t)(y:En):rR (y::bs') S0 v cs t:=by
 obtain ⟨g,h1,h2,h4⟩:=h;exact ⟨g,h1,h2,List.mem_cons_of_mem _ h4⟩
theorem lu.ne{W w0:World}{k:Option (Nat×Int)}{ms:Ms}{os:Os}{bs':List En}{S0 n:Nat}{v:Value}{t:TypeId}(h:lu bs' S0 v t n)(hs:Rs w0 W k bs' ms os):v≠.pointer (some ⟨W.heap.size,0,none⟩):=by
 obtain ⟨g,s,h1,h2,h3,h4⟩:=h;have:=block_lt (hs.bx _ h4).1;rw [h1];intro e;injection e with e
 injection e with e
 injection e with e
 simp only at this;omega
def Sf(e:Int)(B:Prop):Prop:=e=0∨(e=4∧B)
theorem Wd.next{e e':Int}{Q R m d:Nat}{B:Prop}(q:Wd e e' Q R m d)(h:Sf e B)(hd:e=0→0<d):Sf e' B:=by
 rcases h with h|⟨h,hB⟩
 ·by_cases h':e'=0
  ·exact Or.inl h'
  ·have:=q.zero h h';have:=hd h;omega
 ·have:=q.stay (by omega);exact Or.inr ⟨by omega,hB⟩
theorem Over.mono{a b:Nat}(h:Over a)(hab:a≤b):Over b:=⟨Nat.le_trans h.le hab⟩
end Go.Proofs.YtaidedkpfnidpaaGreatDoor
