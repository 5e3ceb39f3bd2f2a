/- Of what NearRoundsRow stands on: SNb. -/
import Derived.Test.YtaidedkpfnidpaaGreatDoorPbe
import Derived.Test.YtaidedkpfnidpaaGreatDoorPas
namespace Go.Proofs.YtaidedkpfnidpaaGreatDoor
open Go.ChangeShapes Go.WideShapes Go.ChangeAt Go.RowKit
theorem FI{P:Program}{w:World}{base fuel:Nat}{sp:Nat→Bool}{held:Bool}{e:TypeId}{cs:List Value}{b:DataW Unit×List MemPlace}(he:P.underlying e=some .string)(h:DataW.trod (fun _=>()) P w base sp held fuel e cs=some b):∃s:ByteArray,cs = [.string s]∧b.1 = .lit (.string s.data.toList):=by
 cases fuel with
 | zero=>simp [DataW.trod] at h
 | succ fuel=>
  simp only [DataW.trod,he] at h
  split at h<;>simp_all
  obtain ⟨_,rfl⟩:=h;rfl
theorem sN{W:World}(h:laidMetH Tryz.prog qQ W):dH W:=by
 have h1:laidMet Tryz.prog qQ W:=(laidMetH_iff.1 h).1;obtain ⟨ps,⟨_,_,_,_,_,_,_,_,_,_,⟨g,t,cs,fuel,p,q,hg,ht,hvar,hd,_,_⟩,_⟩,_⟩:=h1;obtain rfl:=Option.some.inj (Tryz.gNames.symm.trans hg);obtain rfl:=Option.some.inj (Tryz.gNamesType.symm.trans ht);have hc:∀j,j<5→∃s:ByteArray,W.cell? ⟨0,j,none⟩=some (.string s)∧s.data.toList=JQ j:=fun j hj=>by
  cases fuel with
  | zero=>simp [DataW.trod] at hd
  | succ fuel=>
   simp only [DataW.trod,Tryz.namesUnder,Tryz.strCells,Tryz.namesCells,Nat.mul_one] at hd
   split at hd
   ·obtain ⟨xs,hm,hx⟩:=Option.map_eq_some_iff.1 hd;obtain ⟨b,hb,hf⟩:=Lib.mapM_at hm j j (by simp [hj]);obtain ⟨s,hs,hbs⟩:=FI Tryz.strUnder hf;refine ⟨s,?_,?_⟩
    ·have h2:cs.toList[j]? = some (.string s):=by
      have:=congrArg (·[0]?) hs;simpa [List.getElem?_take,List.getElem?_drop] using this
     have h3:=World.var?_cell Tryz.gNames hvar j;rw [h3];simpa using h2
    ·have h4:DataW.agg (xs.map (·.1))=(Rows.laid_numeral_round_names:DataW Unit):=congrArg Prod.fst hx;unfold Rows.laid_numeral_round_names at h4;injection h4 with h4
     have h5:(xs.map (·.1))[j]? = some b.1:=by rw [List.getElem?_map,hb];rfl
     rw [h4,hbs] at h5;have hj5:j=0∨j=1∨j=2∨j=3∨j=4:=by omega
     rcases hj5 with rfl|rfl|rfl|rfl|rfl<;>simp at h5<;>rw [←h5]<;>rfl
   ·cases hd
 have hb:∀(s:ByteArray)(l:List UInt8),s.data.toList=l→s=⟨l.toArray⟩:=fun s l e=>by cases s;subst e;simp
 obtain ⟨s0,a0,b0⟩:=hc 0 (by decide);obtain ⟨s1,a1,b1⟩:=hc 1 (by decide);obtain ⟨s2,a2,b2⟩:=hc 2 (by decide);obtain ⟨s3,a3,b3⟩:=hc 3 (by decide);obtain ⟨s4,a4,b4⟩:=hc 4 (by decide);rw [hb s0 _ b0] at a0;rw [hb s1 _ b1] at a1;rw [hb s2 _ b2] at a2;rw [hb s3 _ b3] at a3;rw [hb s4 _ b4] at a4;exact ⟨World.block_lt_of_cell? W ⟨0,0,none⟩ a0,a0,a1,a2,a3,a4⟩
end Go.Proofs.YtaidedkpfnidpaaGreatDoor
