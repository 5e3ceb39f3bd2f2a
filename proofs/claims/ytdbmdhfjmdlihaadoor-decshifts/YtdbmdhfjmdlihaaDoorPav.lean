/- Of what DecShiftsRow stands on: DcCopy. -/
import Derived.Test.YtdbmdhfjmdlihaaDoorPaf
import Derived.Lib.BufferWrite
import Derived.Deep.RegionLaw
namespace Go.Proofs.YtdbmdhfjmdlihaaDoor
open Go.RowKit
theorem step_copy {ops:Array Oper} {o:Oper} {a:Act} {w w':World} {K:Act→World→Prop} {Q:Exit→Act→World→Prop} {E:Prop} {v:Value} (hg:o.guard = none) (d x:Operand) (hop:o.op = .call { callee:=.builtin .copy,args:=#[d,x],argTypes:=#[36,9] }) (hty:o.type = 3)
  (hrun:(Builtin.copy_ #[36,9] 3 #[a.eval d,a.eval x]).run Tryd.prog w = .ok v w') (hK:K (a.put o.dst v) w'):if Region.wanted o (yielded ops a.tmps) = true then Oper.wp Tryd.prog o a w K Q else E:=by
 rw [if_pos (by simp [Region.wanted,hg])]
 unfold Oper.wp execOp
 simp only [hop,hty,resolve,invoke,builtin,Sem.run_bind,Sem.run_pure,Result.andThen_ok,List.map_toArray,List.map_cons,List.map_nil,hrun]
 exact hK
theorem text_of (w:World) (B n:Nat) (ds:List Nat) (h:BRow w B (ds.map (48+·))) (hd:Pl.Dig ds) (hn:ds.length = n):(convert 36 9 (.slice (some ⟨B,0,none⟩) n n)).run Tryd.prog w = .ok (.string ⟨(chars ds).toArray⟩) w:=by
 have:=text_bytes w B 0 0 n ds (by simpa using h) hd (by omega) (Nat.zero_le _)
 simpa using this
end Go.Proofs.YtdbmdhfjmdlihaaDoor
