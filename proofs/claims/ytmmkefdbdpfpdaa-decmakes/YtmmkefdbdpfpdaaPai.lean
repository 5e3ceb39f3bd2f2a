/- Of what DecMakesRow stands on: Sym7. -/
import Derived.Test.YtmmkefdbdpfpdaaPaf
namespace Go.Proofs.Ytmmkefdbdpfpdaa
open Go.RowKit
theorem script_bind {α β:Type} (P:Program) (r:Nat) (m:Sem α) (k:α→Sem β) (vs:List Value):∀ x:α,script P r m [] = some (x,[])→script P r (m >>= k) vs = script P r (k x) vs:=by
 induction m with
 | pure a=>
  intro x h
  simp only [script,Option.some.injEq,Prod.mk.injEq] at h
  rw [← h.1]; rfl
 | load _ a k' _=>intro x h; simp [script] at h
 | store _ a v k' _=>
  intro x h
  simp only [script] at h
  split at h
  ·simp at h
  ·cases h
 | new o k' _=>
  intro x h
  simp only [script] at h
  split at h
  ·simp at h
  ·cases h
 | program k' ih=>intro x h; exact ih P x h
 | mark _ k' ih=>intro x h; exact ih x h
 | _=>intro x h; simp [script] at h
theorem script_under {P:Program} {r:Nat} {t:TypeId} {d:TypeDesc} (h:P.underlying t = some d):script P r (underlying t) [] = some (d,[]):=by
 show script P r (match P.underlying t with|some d=>pure d|none=>_) [] = _
 rw [h]; rfl
theorem ok_vr {P:Program} {ops:Array Oper} {L:Ks} {E:List Bx} {S:List Spo} {G:World→Prop} {w0:World} {base:Nat} {p:Pqs} {i:Nat} {r:List Spo} {s:Nat} {x:Value} {m:Sem Value} (e:script P 0 m [] = some (x,[])) (h:opRun P ops L (puts p 0 S) i 0 [] = some (some s,true,script P 0 (do pure (Next.value (← m))) [])) (t:Oks P ops L E S G w0 base p (i+1) r):Oks P ops L E S G w0 base p i (.v s x :: r):=
 ⟨(show opRun P ops L (puts p 0 S) i 0 [] = some (some s,true,some (.value x,[])) by rw [h,script_bind P 0 m _ [] x e]; rfl),t⟩
theorem script_bound {P:Program} {r:Nat} {k:IntKind} {i:Int} {y:Nat} {c:BoundsCode} (h0:0≤i) (h1:i≤(y:Int)):script P r (Instr.sliceBound (.int k i) y c) [] = some (i.toNat,[]):=by
 show script P r (if 0≤i∧i≤(y:Int) then pure i.toNat else boundsPanic k i y c) [] = _
 rw [if_pos ⟨h0,h1⟩]; rfl
theorem script_slice {P:Program} {r:Nat} {t:TypeId} {s:ByteArray} {l h:Int} (hu:P.underlying t = some .string) (h0:0≤l) (h1:l≤h) (h2:h≤(s.size:Int)):script P r (Instr.sliceAt t (.string s) (some (.int .i64 l)) (some (.int .i64 h)) none) [] = some (.string (s.extract l.toNat h.toNat),[]):=by
 unfold Instr.sliceAt
 rw [script_bind P r _ _ [] _ (script_under hu)]
 show script P r (Instr.slice t (.string s) (some (.int .i64 l)) (some (.int .i64 h)) none) [] = _
 unfold Instr.slice
 rw [script_bind P r _ _ [] _ (script_under hu)]
 have hb:script P r (Instr.sliceBounds false s.size s.size (some (.int .i64 l)) (some (.int .i64 h)) none) [] = some ((l.toNat,h.toNat,s.size),[]):=by
  show script P r (do let h ← Instr.sliceBound (.int .i64 h) s.size .sliceAlen; let l ← Instr.sliceBound (.int .i64 l) h .sliceB; pure (l,h,s.size)) [] = _
  rw [script_bind P r _ _ [] _ (script_bound (by omega) h2),script_bind P r _ _ [] _ (script_bound h0 (by omega))]; rfl
 show script P r (do let (l,h,_) ← Instr.sliceBounds false s.size s.size (some (.int .i64 l)) (some (.int .i64 h)) none; (pure (Value.string (s.extract l h)):Sem Value)) [] = _
 rw [script_bind P r _ _ [] _ hb]; rfl
end Go.Proofs.Ytmmkefdbdpfpdaa
