/- Of what PowerNoneRow stands on: RefShift RefPlus. -/
import Derived.Test.YteblliofeaahmaaDoorPan
import Derived.Test.YteblliofeaahmaaDoorPal
import Derived.Test.YteblliofeaahmaaDoorPao
import Derived.Test.YteblliofeaahmaaDoorPaf
import Derived.Test.YteblliofeaahmaaDoorPae
namespace Go.Proofs.YteblliofeaahmaaDoor
open Go.RowKit
def TrimTo (w:World) (base:Nat) (zs:List Nat) (e:Ending) (w':World):Prop:=
 w = w'∧∃ a n c ys,e = .returned (.slice a n c)∧n≤zs.length∧ys.length = n∧Own w base (.slice a n c) ys∧Pl.Wf ys∧Pl.Norm ys∧Pl.val ys = Pl.val zs
theorem rtrim_own (base:Nat) (v:Value) (zs:List Nat) (w:World) (h:Own w base v zs) (hw:Pl.Wf zs):Calls Tryd.prog 52 #[v] w (TrimTo w base zs):=by
 have h':=h
 rcases h with ⟨rfl,rfl⟩|⟨g,cap,cur,rfl,hg,hh,h1,h2,h3,hc⟩
 ·refine (rtrim_empty none 0 w).mono ?_
  rintro e w' ⟨rfl,rfl⟩
  exact ⟨rfl,none,0,0,[],rfl,Nat.le_refl _,rfl,Or.inl ⟨rfl,rfl⟩,Pl.wf_nil,Pl.norm_nil,rfl⟩
 ·refine (rtrim_at g 0 zs.length cap zs w rfl h1 h3 (fun j hj=>by rw [Nat.zero_add,cell_of_row w g j _ _ _ hh]; exact hc j hj)).mono ?_
  rintro e w' ⟨rfl,n,hn,h0,hl,rfl⟩
  have hlen:(zs.take n).length = n:=by rw [List.length_take]; omega
  refine ⟨rfl,_,n,cap,zs.take n,rfl,hn,hlen,Or.inr ⟨g,cap,cur,by rw [hlen],hg,hh,by omega,h2,h3,fun j hj=>?_⟩,Pl.wf_take hw n,Pl.norm_of ?_,Pl.take_of_zeros zs n hn h0⟩
  ·rw [hlen] at hj
   rw [hc j (by omega),List.getElem?_take,if_pos hj]
  ·rw [hlen]
   rcases hl with hl|hl
   ·exact Or.inl hl
   ·by_cases hn0:n = 0
    ·exact Or.inl hn0
    ·right
     rw [List.getElem?_take,if_pos (by omega)]
     exact hl
end Go.Proofs.YteblliofeaahmaaDoor
