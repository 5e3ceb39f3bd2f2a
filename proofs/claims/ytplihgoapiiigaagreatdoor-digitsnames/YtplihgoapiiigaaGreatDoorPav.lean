/- Of what DigitsNamesRow stands on: DcCopy. -/
import Derived.Test.YtplihgoapiiigaaGreatDoorPai
import Derived.Lib.BufferWrite
import Derived.Deep.RegionLaw
namespace Go.Proofs.YtplihgoapiiigaaGreatDoor
open Go.RowKit
theorem copy_pre (w:World) (g o n cap:Nat) (s:ByteArray) (cur:Array Value) (t:TypeId) (hg:w.heap[g]? = some (.cells cur t (0,0))) (hle:n≤s.size) (hfit:o+n≤cur.size) :
  (Builtin.copy_ #[86,9] 3 #[.slice (some ⟨g,o,none⟩) n cap,.string s]).run Tryz.prog w = .ok (.int .i64 (n:Int)) (w.setRow g (cur.toList.take o ++ Lib.byteCells (s.data.toList.take n) ++ cur.toList.drop (o+n)).toArray):=by
 have hl:(Lib.byteCells (s.data.toList.take n)).length = n:=by rw [Lib.byteCells_length,List.length_take,← Lib.size_eq,Nat.min_eq_left hle]
 have hst:=run_storeCells_at Tryz.prog g o t (Lib.byteCells (s.data.toList.take n)) 0 cur w hg (by rw [hl]; simpa using hfit) (Lib.byteCells_one _)
 have hmin:Nat.min s.size n = n:=Nat.min_eq_right hle
 have htk:List.take n (List.map (fun b:UInt8=>Value.int IntKind.u8 (b.toNat:Int)) s.data.toList) = Lib.byteCells (s.data.toList.take n):=by rw [← List.map_take]; rfl
 obtain ⟨i,hi,hz0,hz1,hz2⟩:=info_parts Tryz.info_byte
 rw [hl] at hst
 simp only [Nat.add_zero] at hst
 simp [Builtin.copy_,run_underlying Tryz.under_bytes,Builtin.lenOf,Builtin.firstCells,sizeOf,typeInfo,hi,hmin]
 rw [htk,hst]
 simp [Result.andThen,goInt]
theorem step_copy {ops:Array Oper} {o:Oper} {a:Act} {w w':World} {K:Act→World→Prop} {Q:Exit→Act→World→Prop} {E:Prop} {v:Value} (hg:o.guard = none) (d x:Operand) (hop:o.op = .call { callee:=.builtin .copy,args:=#[d,x],argTypes:=#[86,9] }) (hty:o.type = 3)
  (hrun:(Builtin.copy_ #[86,9] 3 #[a.eval d,a.eval x]).run Tryz.prog w = .ok v w') (hK:K (a.put o.dst v) w'):if Region.wanted o (yielded ops a.tmps) = true then Oper.wp Tryz.prog o a w K Q else E:=by
 rw [if_pos (by simp [Region.wanted,hg])]
 unfold Oper.wp execOp
 simp only [hop,hty,resolve,invoke,builtin,Sem.run_bind,Sem.run_pure,Result.andThen_ok,List.map_toArray,List.map_cons,List.map_nil,hrun]
 exact hK
theorem text_of (w:World) (B n:Nat) (ds:List Nat) (h:BRow w B (ds.map (48+·))) (hd:Pl.Dig ds) (hn:ds.length = n):(convert 86 9 (.slice (some ⟨B,0,none⟩) n n)).run Tryz.prog w = .ok (.string ⟨(chars ds).toArray⟩) w:=by
 have:=text_bytes w B 0 0 n ds (by simpa using h) hd (by omega) (Nat.zero_le _)
 simpa using this
theorem setRow_brow {w:World} {B:Nat} {zs ys:List Nat} (h:BRow w B zs):BRow (w.setRow B (bc ys)) B ys:=setRow_heap _ _ _ _ _ (0,0) h
end Go.Proofs.YtplihgoapiiigaaGreatDoor
