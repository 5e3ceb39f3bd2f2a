/- Of what NearRoundsRow stands on: RegInv Det. -/
import Derived.RegionTactic
namespace Go.Proofs.YtaidedkpfnidpaaGreatDoor
theorem xx{l:List Bool}(h:l.count false=0)(i:Nat):l[i]?.getD true=true:=by
 cases hi:l[i]? with
 | none=>rfl
 | some b=>
  cases b with
  | true=>rfl
  | false=>exact absurd (List.mem_of_getElem? hi) (List.count_eq_zero.1 h)
theorem iG{P:Program}{ops:Array Oper}{Q:Exit→Act→World→Prop}(Inv:Array Bool→Act→World→Prop)(hstep:∀l a w i,Inv l a w→i∈Region.ready .any ops l→l[i]? = some false→wpOp P ops Q i (Inv (l.setIfInBounds i true)) a w)(hdone:∀l a w,Inv l a w→Region.ready .any ops l = []→Q .normal a w) :
  ∀(fuel:Nat)(l:Array Bool)(a:Act)(w:World),l.toList.count false≤fuel→Inv l a w→wpAny P .any ops Q fuel l a w:=by
 intro fuel;induction fuel with
 | zero=>
  intro l a w hc hi;have hr:Region.ready .any ops l = []:=by
   unfold Region.ready;rw [List.filter_eq_nil_iff];intro i _;have h0:=xx (Nat.le_zero.1 hc) i;have:l.getD i true=true:=by
    rw [Array.getD_eq_getD_getElem?,←Array.getElem?_toList];exact h0
   rw [this];simp
  exact ⟨hr,hdone l a w hi hr⟩
 | succ fuel ih=>
  intro l a w hc hi;refine ⟨fun hr=>hdone l a w hi hr,fun i hir=>?_⟩;have hl:l[i]? = some false:=by
   unfold Region.ready at hir;rw [List.mem_filter] at hir;have h2:=hir.2;simp only [Bool.and_eq_true,Bool.not_eq_true'] at h2;have h3:=h2.1;rw [Array.getD_eq_getD_getElem?] at h3;cases hx:l[i]? with
   | none=>rw [hx] at h3;cases h3
   | some b=>rw [hx] at h3;simp at h3;rw [h3]
  refine wpOp_mono (fun a' w' h=>ih _ a' w' ?_ h) (hstep l a w i hi hir hl);obtain ⟨hlt,he⟩:=Array.getElem?_eq_some_iff.1 hl;rw [Array.toList_setIfInBounds,List.count_set (by simpa using hlt)];have he2:l.toList[i]'(by simpa using hlt)=false:=by simpa using he
  rw [he2];have hpos:0<l.toList.count false:=List.count_pos_iff.2 (by rw [←he2];exact List.getElem_mem _);rw [if_pos (by rfl),if_neg (by decide)];omega
theorem ready_nil{ops:Array Oper}{l:Array Bool}{i:Nat}{o:Oper}(hr:Region.ready .any ops l = [])(ho:ops[i]? = some o)(hd:∀e∈o.after,Region.binds .any e=true→l.getD e.on false=true):l.getD i true=true:=by
 cases h:l.getD i true with
 | true=>rfl
 | false=>
  have hm:i∈Region.ready .any ops l:=mem_ready.2 ⟨h,o,ho,hd⟩;rw [hr] at hm;cases hm
abbrev ay:=List (Option (Nat×Value))
def ay.free(ds:ay)(s:Nat):Bool:=ds.all fun d=>match d with
 | some (s',_)=>s' != s
 | none=>true
def ay.apart:ay→Bool
 | []=>true
 | some (s,_)::r=>ay.free r s&&ay.apart r
 | none::r=>ay.apart r
def ay.lay:ay→Array Value→Array Value
 | [],t=>t
 | some (s,v)::r,t=>ay.lay r (t.setIfInBounds s v)
 | none::r,t=>ay.lay r t
def gQ(d:Option (Nat×Value))(t:Array Value):Array Value:=match d with
 | some (s,v)=>t.setIfInBounds s v
 | none=>t
def ay.within(ds:ay)(n:Nat):Bool:=ds.all fun d=>match d with
 | some (s,_)=>decide (s<n)
 | none=>true
def kX(ops:Array Oper):Bool:=(List.range ops.size).all fun k=>match ops[k]? with
 | some o=>o.after.all fun e=>!Region.binds .any e||decide (e.on<k)
 | none=>true
theorem ay.free_of{ds:ay}{s:Nat}(h:ay.free ds s=true){k s':Nat}{v:Value}(hk:ds[k]? = some (some (s',v))):s'≠s:=by
 have:=List.all_eq_true.1 h _ (List.mem_of_getElem? hk);simpa using this
theorem ay.one{ds:ay}(h:ay.apart ds=true){j k s:Nat}{u v:Value}(hj:ds[j]? = some (some (s,u)))(hk:ds[k]? = some (some (s,v))):j=k:=by
 induction ds generalizing j k with
 | nil=>simp at hj
 | cons d r ih=>
  cases j with
  | zero=>
   cases k with
   | zero=>rfl
   | succ k=>
    simp at hj hk;subst hj;simp only [ay.apart,Bool.and_eq_true] at h;exact absurd rfl (ay.free_of h.1 hk)
  | succ j=>
   cases k with
   | zero=>
    simp at hj hk;subst hk;simp only [ay.apart,Bool.and_eq_true] at h;exact absurd rfl (ay.free_of h.1 hj)
   | succ k=>
    have hr:ay.apart r=true:=by
     cases d with
     | none=>exact h
     | some d=>obtain ⟨s,v⟩:=d;simp only [ay.apart,Bool.and_eq_true] at h;exact h.2
    exact congrArg (·+1) (ih hr (j:=j) (k:=k) (by simpa using hj) (by simpa using hk))
structure dM(ops:Array Oper)(ds:ay)(T0:Array Value)(l:Array Bool)(t:Array Value):Prop where
 len:l.size=ops.size
 size:t.size=T0.size
 on:∀(k s:Nat)(v:Value),ds[k]? = some (some (s,v))→l[k]? = some true→t[s]? = some v
 off:∀(s:Nat),(∀(k:Nat)(v:Value),ds[k]? = some (some (s,v))→l[k]?≠some true)→t[s]? = T0[s]?
 shut:∀(k:Nat)(o:Oper),l[k]? = some true→ops[k]? = some o→∀e∈o.after,Region.binds .any e=true→l.getD e.on false=true
theorem ak{l:Array Bool}{k:Nat}(h:l.getD k false=true):l[k]? = some true:=by
 rw [Array.getD_eq_getD_getElem?] at h;cases hk:l[k]? with
 | none=>rw [hk] at h;cases h
 | some b=>rw [hk] at h;simp at h;rw [h]
theorem gF{l:Array Bool}{k:Nat}(h:l[k]? = some true):l.getD k false=true:=by
 rw [Array.getD_eq_getD_getElem?,h];rfl
theorem dM.old{ops:Array Oper}{ds:ay}{T0:Array Value}{l:Array Bool}{t:Array Value}(h:dM ops ds T0 l t)(s:Nat)(v:Value)(hf:ay.free ds s=true)(hv:T0[s]? = some v):t[s]? = some v:=by
 rw [h.off s (fun k u hk=>absurd rfl (ay.free_of hf hk)),hv]
theorem dM.od{ops:Array Oper}{ds:ay}{T0:Array Value}{l:Array Bool}{t:Array Value}(h:dM ops ds T0 l t){o:Oper}(hd:∀e∈o.after,Region.binds .any e=true→l.getD e.on false=true)(k s:Nat)(v:Value)(hv:ds[k]? = some (some (s,v)))(hm:(⟨k,.data⟩:Edge)∈o.after):t[s]? = some v:=h.on k s v hv (ak (hd ⟨k,.data⟩ hm rfl))
theorem dM.wait{ops:Array Oper}{ds:ay}{T0:Array Value}{l:Array Bool}{t:Array Value}(h:dM ops ds T0 l t)(ha:ay.apart ds=true)(i k s:Nat)(v u:Value)(o:Oper)(e:Edge)(hi:l[i]? = some false)(hk:ds[k]? = some (some (s,u)))(ho:ops[k]? = some o)(he:e∈o.after)(hb:Region.binds .any e=true)(hei:e.on=i)(hv:T0[s]? = some v):t[s]? = some v:=by
 rw [h.off s (fun j u' hj=>?_),hv];obtain rfl:=ay.one ha hj hk;intro hl;have:=ak (h.shut j o hl ho e he hb);rw [hei,hi] at this;cases this
theorem ay.lay_size(ds:ay):∀(t:Array Value),(ay.lay ds t).size=t.size:=by
 induction ds with
 | nil=>intro t;rfl
 | cons d r ih=>
  intro t;cases d with
  | none=>exact ih t
  | some d=>obtain ⟨s,v⟩:=d;rw [ay.lay,ih];simp
theorem ay.lay_free(ds:ay)(s:Nat)(h:ay.free ds s=true):∀(t:Array Value),(ay.lay ds t)[s]? = t[s]?:=by
 induction ds with
 | nil=>intro t;rfl
 | cons d r ih=>
  intro t;have hr:ay.free r s=true:=by simp only [ay.free,List.all_cons,Bool.and_eq_true] at h ⊢;exact h.2
  cases d with
  | none=>exact ih hr t
  | some d=>
   obtain ⟨s',v⟩:=d;have h1:s'≠s:=ay.free_of h (k:=0) rfl;rw [ay.lay,ih hr,Array.getElem?_setIfInBounds_ne h1]
theorem ay.lay_at(ds:ay)(ha:ay.apart ds=true):∀(t:Array Value)(k s:Nat)(v:Value),ds[k]? = some (some (s,v))→s<t.size→(ay.lay ds t)[s]? = some v:=by
 induction ds with
 | nil=>intro t k s v hk;simp at hk
 | cons d r ih=>
  intro t k s v hk hs;have hr:ay.apart r=true:=by
   cases d with
   | none=>exact ha
   | some d=>obtain ⟨s,v⟩:=d;simp only [ay.apart,Bool.and_eq_true] at ha;exact ha.2
  cases k with
  | zero=>
   simp at hk;subst hk;simp only [ay.apart,Bool.and_eq_true] at ha;rw [ay.lay,ay.lay_free r s ha.1,Array.getElem?_setIfInBounds_self_of_lt hs]
  | succ k=>
   have hk':r[k]? = some (some (s,v)):=by simpa using hk
   cases d with
   | none=>exact ih hr t k s v hk' hs
   | some d=>obtain ⟨s',v'⟩:=d;exact ih hr _ k s v hk' (by simpa using hs)
theorem dM.done{ops:Array Oper}{ds:ay}{T0:Array Value}{l:Array Bool}{t:Array Value}(h:dM ops ds T0 l t)(ha:ay.apart ds=true)(hlen:ds.length=ops.size)(hw:ay.within ds T0.size=true)(hl:∀i,i<ops.size→l[i]? = some true):t=ay.lay ds T0:=by
 apply Array.ext_getElem?;intro s;by_cases hf:ay.free ds s=true
 ·rw [ay.lay_free ds s hf,h.off s (fun k u hk=>absurd rfl (ay.free_of hf hk))]
 ·have:∃(k:Nat) (v:Value),ds[k]? = some (some (s,v)):=by
   simp only [ay.free,Bool.not_eq_true,List.all_eq_false] at hf;obtain ⟨d,hd,hd2⟩:=hf;obtain ⟨k,hk⟩:=List.getElem?_of_mem hd;cases d with
   | none=>simp at hd2
   | some d=>obtain ⟨s',v⟩:=d;simp at hd2;exact ⟨k,v,by rw [hk,hd2]⟩
  obtain ⟨k,v,hk⟩:=this;have hkl:k<ops.size:=by
   rw [←hlen];by_cases hx:k<ds.length
   ·exact hx
   ·rw [List.getElem?_eq_none (by omega)] at hk;cases hk
  have hs:s<T0.size:=by simpa using List.all_eq_true.1 hw _ (List.mem_of_getElem? hk)
  rw [h.on k s v hk (hl k hkl),ay.lay_at ds ha T0 k s v hk hs]
theorem tV{ops:Array Oper}{l:Array Bool}(hlen:l.size=ops.size)(hb:kX ops=true)(hr:Region.ready .any ops l = []):∀i,i<ops.size→l[i]? = some true:=by
 intro i;induction i using Nat.strongRecOn with
 | ind i ih=>
  intro hi;have hb':=List.all_eq_true.1 hb i (List.mem_range.2 hi);obtain ⟨o,ho⟩:∃o,ops[i]? = some o:=⟨ops[i],by simp [hi]⟩;rw [ho] at hb';have h:=ready_nil (i:=i) hr ho (fun e he hbe=>by
   have h1:=Array.all_eq_true'.1 hb' e he;simp [hbe] at h1;exact gF (ih e.on h1 (by omega)))
  rw [Array.getD_eq_getD_getElem?] at h;have hil:i<l.size:=by omega
  rw [Array.getElem?_eq_getElem hil] at h ⊢;simpa using h
theorem aM{P:Program}{ops:Array Oper}{Q:Exit→Act→World→Prop}(ds:ay)(M:Array Bool→World→Prop)(T0:Array Value)(w0:World)(ha:ay.apart ds=true)(hb:kX ops=true)(hlen:ds.length=ops.size)(hw:ay.within ds T0.size=true)(hstep:∀l t w i,dM ops ds T0 l t→i∈Region.ready .any ops l→l[i]? = some false→M l w→wpOp P ops Q i (fun a w'=>a=⟨gQ (ds[i]?.getD none) t,[]⟩∧M (l.setIfInBounds i true) w') ⟨t,[]⟩ w)(hdone:∀l w,(∀i,i<ops.size→l[i]? = some true)→M l w→Q .normal ⟨ay.lay ds T0,[]⟩ w)(hM:M (Array.replicate ops.size false) w0):wpAny P .any ops Q ops.size (Array.replicate ops.size false) ⟨T0,[]⟩ w0:=by
 refine iG (fun l a w=>∃t,a=⟨t,[]⟩∧dM ops ds T0 l t∧M l w) ?_ ?_ _ _ _ _ ?_ ⟨T0,rfl,?_,hM⟩
 ·rintro l a w i ⟨t,rfl,hD,hm⟩ hi hl;refine wpOp_mono ?_ (hstep l t w i hD hi hl hm);rintro a' w' ⟨rfl,hm'⟩;refine ⟨_,rfl,?_,hm'⟩;obtain ⟨hlt,-⟩:=Array.getElem?_eq_some_iff.1 hl;have hset:∀k,(l.setIfInBounds i true)[k]? = some true↔(k=i∨l[k]? = some true):=by
   intro k;by_cases hk:k=i
   ·subst hk;simp [hlt]
   ·rw [Array.getElem?_setIfInBounds_ne (Ne.symm hk)];simp [hk]
  constructor
  ·rw [Array.size_setIfInBounds];exact hD.len
  ·rw [←hD.size];cases hd:ds[i]?.getD none with
   | none=>rfl
   | some d=>obtain ⟨s,v⟩:=d;simp [gQ]
  ·intro k s v hk hlk;rcases (hset k).1 hlk with rfl|hlk9
   ·rw [hk];have hs:s<t.size:=by rw [hD.size];simpa using List.all_eq_true.1 hw _ (List.mem_of_getElem? hk)
    simp [gQ,hs]
   ·cases hd:ds[i]?.getD none with
    | none=>exact hD.on k s v hk hlk9
    | some d=>
     obtain ⟨s',v'⟩:=d;have hd':ds[i]? = some (some (s',v')):=by
      cases hx:ds[i]? with
      | none=>rw [hx] at hd;simp at hd
      | some y=>rw [hx] at hd;simp at hd;rw [hd]
     have hne:s'≠s:=by
      intro e;subst e;obtain rfl:=ay.one ha hk hd';rw [hl] at hlk9;cases hlk9
     rw [gQ,Array.getElem?_setIfInBounds_ne hne];exact hD.on k s v hk hlk9
  ·intro s hs;cases hd:ds[i]?.getD none with
   | none=>exact hD.off s (fun k v hk hlk=>hs k v hk ((hset k).2 (Or.inr hlk)))
   | some d=>
    obtain ⟨s',v'⟩:=d;have hd':ds[i]? = some (some (s',v')):=by
     cases hx:ds[i]? with
     | none=>rw [hx] at hd;simp at hd
     | some y=>rw [hx] at hd;simp at hd;rw [hd]
    have hne:s'≠s:=by
     intro e;subst e;exact hs i v' hd' ((hset i).2 (Or.inl rfl))
    rw [gQ,Array.getElem?_setIfInBounds_ne hne];exact hD.off s (fun k v hk hlk=>hs k v hk ((hset k).2 (Or.inr hlk)))
  ·intro k o hlk ho e he hbe;rcases (hset k).1 hlk with rfl|hlk
   ·obtain ⟨o',ho',hd'⟩:=(mem_ready.1 hi).2;rw [ho] at ho';cases ho';exact gF ((hset _).2 (Or.inr (ak (hd' e he hbe))))
   ·exact gF ((hset _).2 (Or.inr (ak (hD.shut k o hlk ho e he hbe))))
 ·rintro l a w ⟨t,rfl,hD,hm⟩ hr;have hl:=tV hD.len hb hr;rw [hD.done ha hlen hw hl];exact hdone l w hl hm
 ·simp
 ·constructor
  ·simp
  ·rfl
  ·intro k s v _ h;rw [Array.getElem?_replicate] at h
   split at h<;>cases h
  ·intro s _;rfl
  ·intro k o h;rw [Array.getElem?_replicate] at h
   split at h<;>cases h
end Go.Proofs.YtaidedkpfnidpaaGreatDoor
