/- Of what DigitsSureRow stands on: SymEq. -/
import Derived.Test.YteafdlblemdclaaGreatDoorPaz
import Derived.ChangeKeysEq
namespace Go.Proofs.YteafdlblemdclaaGreatDoor
open Go.RowKit
theorem script_split {α β:Type} (P:Program) (r:Nat) (m:Sem α) (k:α→Sem β):∀ y:β,script P r (m >>= k) [] = some (y,[])→∃ x:α,script P r m [] = some (x,[])∧script P r (k x) [] = some (y,[]):=by
 induction m with
 | pure a=>intro y h; exact ⟨a,rfl,h⟩
 | load _ a k' _=>intro y h; simp [script,bind,Sem.bind] at h
 | store _ a v k' _=>
  intro y h
  simp only [script,bind,Sem.bind] at h
  split at h
  ·simp at h
  ·cases h
 | new o k' _=>
  intro y h
  simp only [script,bind,Sem.bind] at h
  split at h
  ·simp at h
  ·cases h
 | program k' ih=>intro y h; exact ih P y h
 | mark _ k' ih=>intro y h; exact ih y h
 | _=>intro y h; simp [script,bind,Sem.bind] at h
theorem script_fields {P:Program} {r d:Nat} {xs ys:Array Value}:∀ (fs:List Field),script P r (Op.eqFields d xs ys fs) [] = some (true,[]) →
  script P r (forIn fs ((none:Option Bool),()) fun f _=>
   if f.name ≠ "_" then do
    let a ← part f.type xs f.offset
    let b ← part f.type ys f.offset
    let e ← Op.equalIn d f.type a b
    if (!e) = true then pure (ForInStep.done (some false,())) else pure (ForInStep.yield (none,()))
   else pure (ForInStep.yield (none,()))) [] = some ((none,()),[])
 | [],_=>rfl
 | f :: fs,h=>by
  rw [List.forIn_cons]
  by_cases hn : f.name ≠ "_"
  ·rw [Op.eqFields,if_pos hn] at h
   obtain ⟨a,ha,h⟩:=script_split P r _ _ _ h
   obtain ⟨b,hb,h⟩:=script_split P r _ _ _ h
   obtain ⟨e,he,h⟩:=script_split P r _ _ _ h
   cases e with
   | false=>simp [script_pure] at h
   | true=>
    rw [if_neg (by simp)] at h
    rw [script_bind P r _ _ [] (ForInStep.yield (none,())) (by
     rw [if_pos hn,script_bind P r _ _ [] _ ha,script_bind P r _ _ [] _ hb,script_bind P r _ _ [] _ he]; rfl)]
    exact script_fields fs h
  ·rw [Op.eqFields,if_neg hn] at h
   rw [script_bind P r _ _ [] (ForInStep.yield (none,())) (by rw [if_neg hn]; rfl)]
   exact script_fields fs h
theorem script_struct {P:Program} {r:Nat} (d:Nat) (t:TypeId) (xs ys:Array Value) (ht:P.underlying t = some (.struct (P.fieldsOf t))) (hp:P.stoodInHeld t = false)
  (h:script P r (Op.eqFields d xs ys (P.fieldsOf t).toList) [] = some (true,[])):script P r (Op.equalIn (d+1) t (.agg xs) (.agg ys)) [] = some (true,[]):=by
 simp only [Op.equalIn]
 rw [script_bind P r _ _ [] _ (script_under ht)]
 simp only []
 rw [script_bind P r program _ [] P rfl,hp,if_neg (by decide),← Array.forIn_toList,script_bind P r _ _ [] _ (script_fields _ h)]
 rfl
theorem script_eqb {P:Program} {r d:Nat} {t:TypeId} (b:Bool) (h:P.underlying t = some .bool):script P r (Op.equalIn (d+1) t (.bool b) (.bool b)) [] = some (true,[]):=by
 simp only [Op.equalIn]
 rw [script_bind P r _ _ [] _ (script_under h)]
 show script P r (pure (b == b)) [] = _
 rw [beq_self_eq_true]; rfl
theorem script_eqs {P:Program} {r d:Nat} {t:TypeId} (b:ByteArray) (h:P.underlying t = some .string):script P r (Op.equalIn (d+1) t (.string b) (.string b)) [] = some (true,[]):=by
 simp only [Op.equalIn]
 rw [script_bind P r _ _ [] _ (script_under h)]
 show script P r (pure (b == b)) [] = _
 rw [beq_toListBytes,beq_self_eq_true]; rfl
theorem script_eqi {P:Program} {r d:Nat} {t:TypeId} {k:IntKind} (b:Int) (h:P.underlying t = some (.int k)):script P r (Op.equalIn (d+1) t (.int k b) (.int k b)) [] = some (true,[]):=by
 simp only [Op.equalIn]
 rw [script_bind P r _ _ [] _ (script_under h)]
 simp only []
 rw [if_pos trivial,beq_self_eq_true]; rfl
end Go.Proofs.YteafdlblemdclaaGreatDoor
