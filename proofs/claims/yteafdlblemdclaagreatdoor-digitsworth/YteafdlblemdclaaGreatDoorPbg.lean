/- Of what DigitsWorthRow stands on: DbEq DcRdN DcDifN DgEq DgLawW. -/
import Derived.Test.YteafdlblemdclaaGreatDoorPbc
import Derived.Test.YteafdlblemdclaaGreatDoorPbf
import Derived.Test.YteafdlblemdclaaGreatDoorPbb
namespace Go.Proofs.YteafdlblemdclaaGreatDoor
open Go.RowKit
set_option maxHeartbeats 2000000
set_option maxRecDepth 20000
theorem dbe_under:Tryz.prog.underlying 35 = some (.struct (Tryz.prog.fieldsOf 35)):=by kernel_rfl
theorem dbe_eq {r:Nat} (g:Bool) (s:ByteArray) (x:Int):script Tryz.prog r (Op.equal 35 (.agg #[.bool g,.string s,.int .i64 x]) (.agg #[.bool g,.string s,.int .i64 x])) [] = some (true,[]):=by
 have hE:script Tryz.prog r (Op.equalIn (9999+1) 35 (.agg #[.bool g,.string s,.int .i64 x]) (.agg #[.bool g,.string s,.int .i64 x])) [] = some (true,[]):=by
  refine script_struct 9999 _ _ _ dbe_under (by kernel_rfl) ?_
  have n1 : (Tryz.prog.fieldsOf 35).toList.map (fun f => (f.name, f.type, f.offset)) = [("Neg", 4, 0), ("Digits", 9, 1), ("Exp", 3, 2)] := by kernel_rfl
  generalize (Tryz.prog.fieldsOf 35).toList = fs at n1 ⊢
  rcases fs with _|⟨f1,_|⟨f2,_|⟨f3,_|⟨f4,fs⟩⟩⟩⟩ <;> simp only [List.map_cons,List.map_nil,List.cons.injEq,Prod.mk.injEq,and_true,reduceCtorEq,and_false] at n1
  obtain ⟨⟨a1,a2,a3⟩,⟨b1,b2,b3⟩,c1,c2,c3⟩:=n1
  rw [Op.eqFields,if_pos (by rw [a1]; decide),a2,a3,script_bind Tryz.prog r _ _ [] (.bool g) (by kernel_rfl),script_bind Tryz.prog r _ _ [] (.bool g) (by kernel_rfl),script_bind Tryz.prog r _ _ [] _ (script_eqb g (by kernel_rfl)),if_neg (by decide)]
  rw [Op.eqFields,if_pos (by rw [b1]; decide),b2,b3,script_bind Tryz.prog r _ _ [] (.string s) (by kernel_rfl),script_bind Tryz.prog r _ _ [] (.string s) (by kernel_rfl),script_bind Tryz.prog r _ _ [] _ (script_eqs s (by kernel_rfl)),if_neg (by decide)]
  rw [Op.eqFields,if_pos (by rw [c1]; decide),c2,c3,script_bind Tryz.prog r _ _ [] (.int .i64 x) (by kernel_rfl),script_bind Tryz.prog r _ _ [] (.int .i64 x) (by kernel_rfl),script_bind Tryz.prog r _ _ [] _ (script_eqi x (by kernel_rfl)),if_neg (by decide)]
  rfl
 unfold Op.equal Op.maxDepth
 rw [show (10000:Nat) = 9999+1 from rfl]
 exact hE
theorem tens_of (N:Nat):N≠0→∃ n z:Nat,N = n * 10 ^ z∧n % 10≠0:=by
 induction N using Nat.strongRecOn with
 | ind N ih=>
  intro h0
  by_cases h:N % 10 = 0
  ·obtain ⟨n,z,h1,h2⟩:=ih (N / 10) (by omega) (by omega)
   refine ⟨n,z+1,?_,h2⟩
   rw [Nat.pow_succ,← Nat.mul_assoc,← h1]
   omega
  ·exact ⟨N,0,by simp,h⟩
theorem mkA_ex (g:Bool) (N:Nat) (x:Int):∃ (g2:Bool) (s2:ByteArray) (x2 e2:Int),MkA g N x (.tuple #[.agg #[.bool g2,.string s2,.int .i64 x2],.int .i64 e2]):=by
 by_cases h0:N = 0
 ·exact ⟨_,_,_,_,Or.inl ⟨h0,rfl⟩⟩
 ·obtain ⟨n,z,h1,h2⟩:=tens_of N h0
  obtain ⟨ds,_,hS,_,_⟩:=says_ex n
  by_cases hr:x+(z:Int) < -1073741824∨1073741824 < x+(z:Int)
  ·exact ⟨_,_,_,_,Or.inr ⟨_,n,z,h1,h2,hS,Or.inl ⟨hr,rfl⟩⟩⟩
  ·exact ⟨_,_,_,_,Or.inr ⟨_,n,z,h1,h2,hS,Or.inr ⟨hr,rfl⟩⟩⟩
theorem DcOk.lst {s:ByteArray} {x:Int} (h:DcOk s x):∀ k,(hk:k+1 = s.size)→(s[k]'(by omega)).toNat≠48:=fun k hk=>by
 refine h.cd.2 _ ?_
 have hz:s.data.size = s.size:=rfl
 rw [List.getLast?_eq_getElem?,Array.length_toList,List.getElem?_eq_getElem (by rw [Array.length_toList]; omega)]
 have hk2:s.data.size - 1 = k:=by omega
 subst hk2
 rfl
theorem DcOk.chk {s:ByteArray} {x:Int} (h:DcOk s x) (g:Bool) (W:World) :
  Calls Tryz.prog 14 #[.agg #[.bool g,.string s,.int .i64 x]] W fun en W'=>en = .returned (.int .i64 0)∧Below W.heap.size W W':=by
 by_cases h0:s.size = 0
 ·exact dck_z0 W g s x h.sz h0 (h.zero h0)
 ·exact chk_good g s x h.sz h0 h.ok h.fst h.lst h.lo h.hi W
def apart (M N:Nat):Nat:=if N < M then M - N else N - M
theorem mkA_near {g:Bool} {D:Nat} {x:Int} {V:Value} (h:MkA g D x V) (h0:D≠0) (hD:D < tenTop 65536) (hx0:-1073741824≤x) (hx1:x≤1000000000) :
  ∃ (s3:ByteArray) (z:Nat),V = .tuple #[.agg #[.bool g,.string s3,.int .i64 (x+(z:Int))],.int .i64 0]∧DcOk s3 (x+(z:Int))∧valS s3 * 10 ^ z = D:=by
 rcases h with ⟨e,_⟩|⟨t,n,z,h1,h10,hS,h⟩
 ·exact absurd e h0
 have hz:z < 65536:=by
  rcases Nat.lt_or_ge z 65536 with q|q
  ·exact q
  ·exfalso
   have a1:=tenTop_le q
   have a2:10 ^ z≤n * 10 ^ z:=Nat.le_mul_of_pos_left _ (by omega)
   omega
 have hle:n≤D:=by rw [h1]; exact Nat.le_mul_of_pos_right _ (Nat.pow_pos (by omega))
 rcases h with ⟨hr,_⟩|⟨hr,hV⟩
 ·omega
 ·obtain ⟨k1,k2,_⟩:=says_ok hS h10 (Nat.lt_of_le_of_lt hle hD) (y:=x+(z:Int)) (by omega) (by omega)
  exact ⟨t,z,hV,k1,by rw [k2,h1]⟩
theorem dc_eql {r:Nat} (g:Bool) (s:ByteArray) (x:Int):script Tryz.prog r (binOp .eql 35 (.agg #[.bool g,.string s,.int .i64 x]) (.agg #[.bool g,.string s,.int .i64 x])) [] = some (.bool true,[]):=by
 simp only [binOp]
 rw [script_bind Tryz.prog r (Op.equal _ _ _) _ [] true (dbe_eq g s x)]
 rfl
theorem dalive_is (w:World)  (ht:Tb w) (htp:Tpw w) (H1:Hid (∀ W:World,Tb W→Tpw W→Calls Tryz.prog 9 #[.agg #[.int .i64 5,.int .i64 10],.int .u64 11878] W fun e W'=>e = .returned (.tuple #[.agg #[.bool false,.string ⟨#[57,57,57,55,53,53,56,53,57,51,55,53]⟩,.int .i64 (-13)],.int .i64 0])∧Below W.heap.size W W')) (H2:Hid (∀ W:World,Tb W→Tpw W→Calls Tryz.prog 15 #[.agg #[.int .i64 5,.int .i64 10],.int .u64 11878,.int .i64 3,.int .u8 0] W fun e W'=>e = .returned (.tuple #[.agg #[.bool false,.string ⟨#[49]⟩,.int .i64 (-1)],.bool false,.int .i64 0])∧Below W.heap.size W W')) (H3:Hid (∀ W:World,Tb W→Tpw W→Calls Tryz.prog 16 #[.agg #[.int .i64 5,.int .i64 10],.int .u64 32769,.int .i64 3,.int .u8 4] W fun e W'=>e = .returned (.tuple #[.agg #[.bool true,.string ⟨#[49]⟩,.int .i64 (-3)],.bool false,.int .i64 0])∧Below W.heap.size W W')) (H4:Hid (∀ W:World,Calls Tryz.prog 19 #[.agg #[.int .i64 5,.int .i64 10]] W fun e W'=>e = .returned (.tuple #[.int .i64 5,.int .i64 0])∧Below W.heap.size W W')) (H5:Hid (∀ W:World,Calls Tryz.prog 22 #[.agg #[.int .i64 5,.int .i64 10]] W fun e W'=>e = .returned (.tuple #[.int .i64 3,.int .i64 0])∧Below W.heap.size W W')) :
  Calls Tryz.prog 7 #[] w fun en w'=>en = .returned (.bool true)∧Below w.heap.size w w':=by
 refine calls_sym Tryz.func7 rfl (by kernel_rfl) fun T hK=>?_
 replace hK:Kn T _ []:=hK
 have hS:=Fb.begin w
 have hG:GsAt [] w:=trivial
 refine wq hS hG hK (fun p1=>[.v 0 (.bool false)]) (fun p1=>[(0,.bool false)]) (fun p1=>?_) (fun p1 W1 T hF hK=>?_)
 ·refine okv ?_
  exact ok_nil
 replace hS:=SymF.fc hS hF [] []
 replace hG:=hF.gx
 clear hF
 refine wq hS hG hK (fun p2=>[.v 14 (.agg #[.int .i64 5,.int .i64 10]),.n 1 #[.int .i64 0,.int .i64 0] 23,.p 1001 0 [.int .i64 5,.int .i64 10]]) (fun p2=>[(0,.bool false),(1,pT (p2 1).N 0)]) (fun p2=>?_) (fun p2 W2 T hF hK=>?_)
 ·refine okv ?_
  refine okn ?_
  refine okp ?_
  exact ok_nil
 replace hS:=SymF.fc hS hF [1001] [⟨(p2 1).N,#[.int .i64 5,.int .i64 10],23,true⟩]
 replace hG:=hF.gx
 clear hF
 refine wq hS hG hK (fun p3=>[.l 16 (.agg #[.int .i64 5,.int .i64 10]) 0 0,.c (some 17) (cV (.tuple #[.agg #[.bool false,.string ⟨#[57,57,57,55,53,53,56,53,57,51,55,53]⟩,.int .i64 (-13)],.int .i64 0])),.v 15 (.tuple #[.agg #[.bool false,.string ⟨#[57,57,57,55,53,53,56,53,57,51,55,53]⟩,.int .i64 (-13)],.int .i64 0]),.v 18 (.agg #[.bool false,.string ⟨#[57,57,57,55,53,53,56,53,57,51,55,53]⟩,.int .i64 (-13)]),.v 19 (.int .i64 0),.n 2 #[.bool false,.string ⟨#[]⟩,.int .i64 0] 35,.p 1005 0 [.bool false,.string ⟨#[57,57,57,55,53,53,56,53,57,51,55,53]⟩,.int .i64 (-13)],.v 3 (.int .i64 0)]) (fun p3=>[(0,.bool false),(1,pT (p2 1).N 0),(2,pT (p3 5).N 0),(3,.int .i64 0)]) (fun p3=>?_) (fun p3 W3 T hF hK=>?_)
 ·refine okl ?_
  refine okc (fun W cx=>as_v (unhide H1 _ (ht.kept cx.fr) (htp.kept cx.fr))) ?_
  iterate 3 refine okv ?_
  refine okn ?_
  refine okp ?_
  refine okv ?_
  exact ok_nil
 replace hS:=SymF.fc hS hF [0,1005] [⟨(p2 1).N,#[.int .i64 5,.int .i64 10],23,true⟩,⟨(p3 5).N,#[.bool false,.string ⟨#[57,57,57,55,53,53,56,53,57,51,55,53]⟩,.int .i64 (-13)],35,true⟩]
 replace hG:=hF.gx
 clear hF
 refine wq hS hG hK (fun p4=>[.l 21 (.agg #[.int .i64 5,.int .i64 10]) 0 0,.c (some 22) (cV (.tuple #[.agg #[.bool false,.string ⟨#[49]⟩,.int .i64 (-1)],.bool false,.int .i64 0])),.v 20 (.tuple #[.agg #[.bool false,.string ⟨#[49]⟩,.int .i64 (-1)],.bool false,.int .i64 0]),.v 23 (.agg #[.bool false,.string ⟨#[49]⟩,.int .i64 (-1)]),.v 24 (.bool false),.v 25 (.int .i64 0),.n 4 #[.bool false,.string ⟨#[]⟩,.int .i64 0] 35,.p 1006 0 [.bool false,.string ⟨#[49]⟩,.int .i64 (-1)],.v 5 (.bool false),.v 6 (.int .i64 0)]) (fun p4=>[(0,.bool false),(1,pT (p2 1).N 0),(2,pT (p3 5).N 0),(3,.int .i64 0),(4,pT (p4 6).N 0),(5,.bool false),(6,.int .i64 0)]) (fun p4=>?_) (fun p4 W4 T hF hK=>?_)
 ·refine okl ?_
  refine okc (fun W cx=>as_v (unhide H2 _ (ht.kept cx.fr) (htp.kept cx.fr))) ?_
  iterate 4 refine okv ?_
  refine okn ?_
  refine okp ?_
  iterate 2 refine okv ?_
  exact ok_nil
 replace hS:=SymF.fc hS hF [0,1,1006] [⟨(p2 1).N,#[.int .i64 5,.int .i64 10],23,true⟩,⟨(p3 5).N,#[.bool false,.string ⟨#[57,57,57,55,53,53,56,53,57,51,55,53]⟩,.int .i64 (-13)],35,true⟩,⟨(p4 6).N,#[.bool false,.string ⟨#[49]⟩,.int .i64 (-1)],35,true⟩]
 replace hG:=hF.gx
 clear hF
 refine wq hS hG hK (fun p5=>[.l 27 (.agg #[.int .i64 5,.int .i64 10]) 0 0,.c (some 28) (cV (.tuple #[.agg #[.bool true,.string ⟨#[49]⟩,.int .i64 (-3)],.bool false,.int .i64 0])),.v 26 (.tuple #[.agg #[.bool true,.string ⟨#[49]⟩,.int .i64 (-3)],.bool false,.int .i64 0]),.v 29 (.agg #[.bool true,.string ⟨#[49]⟩,.int .i64 (-3)]),.v 30 (.bool false),.v 31 (.int .i64 0),.n 7 #[.bool false,.string ⟨#[]⟩,.int .i64 0] 35,.p 1006 0 [.bool true,.string ⟨#[49]⟩,.int .i64 (-3)],.v 8 (.bool false),.v 9 (.int .i64 0)]) (fun p5=>[(0,.bool false),(1,pT (p2 1).N 0),(2,pT (p3 5).N 0),(3,.int .i64 0),(4,pT (p4 6).N 0),(5,.bool false),(6,.int .i64 0),(7,pT (p5 6).N 0),(8,.bool false),(9,.int .i64 0)]) (fun p5=>?_) (fun p5 W5 T hF hK=>?_)
 ·refine okl ?_
  refine okc (fun W cx=>as_v (unhide H3 _ (ht.kept cx.fr) (htp.kept cx.fr))) ?_
  iterate 4 refine okv ?_
  refine okn ?_
  refine okp ?_
  iterate 2 refine okv ?_
  exact ok_nil
 replace hS:=SymF.fc hS hF [0,1,2,1006] [⟨(p2 1).N,#[.int .i64 5,.int .i64 10],23,true⟩,⟨(p3 5).N,#[.bool false,.string ⟨#[57,57,57,55,53,53,56,53,57,51,55,53]⟩,.int .i64 (-13)],35,true⟩,⟨(p4 6).N,#[.bool false,.string ⟨#[49]⟩,.int .i64 (-1)],35,true⟩,⟨(p5 6).N,#[.bool true,.string ⟨#[49]⟩,.int .i64 (-3)],35,true⟩]
 replace hG:=hF.gx
 clear hF
 refine wq hS hG hK (fun p6=>[.l 33 (.agg #[.int .i64 5,.int .i64 10]) 0 0,.c (some 34) (cV (.tuple #[.int .i64 5,.int .i64 0])),.v 32 (.tuple #[.int .i64 5,.int .i64 0]),.v 35 (.int .i64 5),.v 36 (.int .i64 0),.v 10 (.int .i64 5),.v 11 (.int .i64 0)]) (fun p6=>[(0,.bool false),(1,pT (p2 1).N 0),(2,pT (p3 5).N 0),(3,.int .i64 0),(4,pT (p4 6).N 0),(5,.bool false),(6,.int .i64 0),(7,pT (p5 6).N 0),(8,.bool false),(9,.int .i64 0),(10,.int .i64 5),(11,.int .i64 0)]) (fun p6=>?_) (fun p6 W6 T hF hK=>?_)
 ·refine okl ?_
  refine okc (fun W cx=>as_v (unhide H4 _)) ?_
  iterate 5 refine okv ?_
  exact ok_nil
 obtain ⟨hS,hG⟩:=SymF.fg hS hF
 clear hF
 refine wq hS hG hK (fun p7=>[.l 38 (.agg #[.int .i64 5,.int .i64 10]) 0 0,.c (some 39) (cV (.tuple #[.int .i64 3,.int .i64 0])),.v 37 (.tuple #[.int .i64 3,.int .i64 0]),.v 40 (.int .i64 3),.v 41 (.int .i64 0),.v 12 (.int .i64 3),.v 13 (.int .i64 0)]) (fun p7=>[(0,.bool false),(2,pT (p3 5).N 0),(3,.int .i64 0),(4,pT (p4 6).N 0),(5,.bool false),(6,.int .i64 0),(7,pT (p5 6).N 0),(8,.bool false),(9,.int .i64 0),(10,.int .i64 5),(11,.int .i64 0),(12,.int .i64 3),(13,.int .i64 0)]) (fun p7=>?_) (fun p7 W7 T hF hK=>?_)
 ·refine okl ?_
  refine okc (fun W cx=>as_v (unhide H5 _)) ?_
  iterate 5 refine okv ?_
  exact ok_nil
 replace hS:=SymF.fc hS hF [1,2,3] [⟨(p3 5).N,#[.bool false,.string ⟨#[57,57,57,55,53,53,56,53,57,51,55,53]⟩,.int .i64 (-13)],35,true⟩,⟨(p4 6).N,#[.bool false,.string ⟨#[49]⟩,.int .i64 (-1)],35,true⟩,⟨(p5 6).N,#[.bool true,.string ⟨#[49]⟩,.int .i64 (-3)],35,true⟩]
 replace hG:=hF.gx
 clear hF
 refine wq hS hG hK (fun p8=>[.v 42 (.int .i64 0),.v 43 (.bool true),.v 44 (.bool true),.v 45 (.int .i64 0),.v 46 (.bool true),.v 47 (.bool true),.v 48 (.bool true),.v 49 (.int .i64 0),.v 50 (.bool true),.v 51 (.bool true),.v 52 (.bool true),.v 53 (.int .i64 0),.v 54 (.bool true),.v 55 (.bool true),.v 56 (.bool true),.v 57 (.int .i64 0),.v 58 (.bool true),.v 59 (.bool true),.v 60 (.bool true),.l 61 (.agg #[.bool false,.string ⟨#[57,57,57,55,53,53,56,53,57,51,55,53]⟩,.int .i64 (-13)]) 0 0,.v 62 (.agg #[.bool false,.string { data:=#[57,57,57,55,53,53,56,53,57,51,55,53] },.int .i64 (-13)]),.v 63 (.bool true),.v 64 (.bool true),.v 65 (.bool true),.l 66 (.agg #[.bool false,.string ⟨#[49]⟩,.int .i64 (-1)]) 1 0,.v 67 (.agg #[.bool false,.string { data:=#[49] },.int .i64 (-1)]),.v 68 (.bool true),.v 69 (.bool true),.v 70 (.bool true),.v 71 (.bool false),.v 72 (.bool true),.v 73 (.bool true),.v 74 (.bool true),.l 75 (.agg #[.bool true,.string ⟨#[49]⟩,.int .i64 (-3)]) 2 0,.v 76 (.agg #[.bool true,.string { data:=#[49] },.int .i64 (-3)]),.v 77 (.bool true),.v 78 (.bool true),.v 79 (.bool true),.v 80 (.bool false),.v 81 (.bool true),.v 82 (.bool true),.v 83 (.bool true),.v 84 (.int .i64 5),.v 85 (.bool true),.v 86 (.bool true),.v 87 (.bool true),.v 88 (.int .i64 3),.v 89 (.bool true),.v 90 (.bool true),.v 0 (.bool true)]) (fun p8=>[(0,.bool true)]) (fun p8=>?_) (fun p8 W8 T hF hK=>?_)
 ·iterate 19 refine okv ?_
  refine okl ?_
  refine okv ?_
  refine ok_vr (dc_eql (false) (⟨#[57,57,57,55,53,53,56,53,57,51,55,53]⟩) ((-13))) (by kernel_rfl) ?_
  iterate 2 refine okv ?_
  refine okl ?_
  refine okv ?_
  refine ok_vr (dc_eql (false) (⟨#[49]⟩) ((-1))) (by kernel_rfl) ?_
  iterate 6 refine okv ?_
  refine okl ?_
  refine okv ?_
  refine ok_vr (dc_eql (true) (⟨#[49]⟩) ((-3))) (by kernel_rfl) ?_
  iterate 14 refine okv ?_
  exact ok_nil
 replace hS:=SymF.fc hS hF [] []
 replace hG:=hF.gx
 clear hF
 refine wp_ret ?_
 exact sym_end hS hK (.bool true) [] [] (by kernel_rfl) (by kernel_rfl) ⟨rfl,hS.fr⟩
theorem dworth_e (w:World) (E F b:Int) (err:Int) (he:err≠0) (ht:Tb w) (htp:Tpw w) (HL:Hid (∀ W:World,Tb W→Tpw W→Calls Tryz.prog 7 #[] W fun e W'=>e = .returned (.bool true)∧Below W.heap.size W W')) (HV:Hid (∀ W:World,Tb W→Calls Tryz.prog 8 #[.agg #[.int .i64 E,.int .i64 F],.int .u64 b] W fun e W'=>e = .returned (.tuple #[.agg #[.bool false,.slice none 0 0,.int .i64 0],.int .i64 err])∧Below W.heap.size W W')) (HA:Hid (∀ W:World,Tb W→Tpw W→Calls Tryz.prog 9 #[.agg #[.int .i64 E,.int .i64 F],.int .u64 b] W fun e W'=>e = .returned (.tuple #[.agg #[.bool false,.string ⟨#[]⟩,.int .i64 0],.int .i64 err])∧Below W.heap.size W W')) (HC:Hid (∀ W:World,Tb W→Tpw W→Calls Tryz.prog 10 #[.agg #[.int .i64 E,.int .i64 F],.int .u64 b] W fun e W'=>e = .returned (.tuple #[.int .i64 0,.int .i64 err])∧Below W.heap.size W W')) :
  Calls Tryz.prog 3 #[.agg #[.int .i64 E,.int .i64 F],.int .u64 b] w fun en w'=>en = .returned (.bool true)∧Below w.heap.size w w':=by
 refine calls_sym Tryz.func3 rfl (by kernel_rfl) fun T hK=>?_
 replace hK:Kn T _ [(0,.agg #[.int .i64 E,.int .i64 F]),(1,.int .u64 b)]:=hK
 have hS:=Fb.begin w
 have hG:GsAt [] w:=trivial
 refine wq hS hG hK (fun p1=>[.n 2 #[.int .i64 E,.int .i64 F] 23,.v 4 (.bool false)]) (fun p1=>[(1,.int .u64 b),(2,pT (p1 0).N 0),(4,.bool false)]) (fun p1=>?_) (fun p1 W1 T hF hK=>?_)
 ·refine okn ?_
  refine okv ?_
  exact ok_nil
 replace hS:=SymF.fc hS hF [1000] [⟨(p1 0).N,#[.int .i64 E,.int .i64 F],23,true⟩]
 replace hG:=hF.gx
 clear hF
 refine wq hS hG hK (fun p2=>[.c (some 16) (cV (.bool true)),.v 5 (.bool true)]) (fun p2=>[(1,.int .u64 b),(2,pT (p1 0).N 0),(4,.bool false),(5,.bool true)]) (fun p2=>?_) (fun p2 W2 T hF hK=>?_)
 ·refine okc (fun W cx=>as_v (unhide HL _ (ht.kept cx.fr) (htp.kept cx.fr))) ?_
  refine okv ?_
  exact ok_nil
 obtain ⟨hS,hG⟩:=SymF.fg hS hF
 clear hF
 refine wq hS hG hK (fun p3=>[.l 18 (.agg #[.int .i64 E,.int .i64 F]) 0 0,.v 19 (.int .u64 b),.c (some 20) (cV (.tuple #[.agg #[.bool false,.slice none 0 0,.int .i64 0],.int .i64 err])),.v 17 (.tuple #[.agg #[.bool false,.slice none 0 0,.int .i64 0],.int .i64 err]),.v 21 (.agg #[.bool false,.slice none 0 0,.int .i64 0]),.v 22 (.int .i64 err),.n 6 #[.bool false,.slice none 0 0,.int .i64 0] 30,.p 1006 0 [.bool false,.slice none 0 0,.int .i64 0],.v 7 (.int .i64 err)]) (fun p3=>[(1,.int .u64 b),(2,pT (p1 0).N 0),(4,.bool false),(5,.bool true),(6,pT (p3 6).N 0),(7,.int .i64 err)]) (fun p3=>?_) (fun p3 W3 T hF hK=>?_)
 ·refine okl ?_
  refine okv ?_
  refine okc (fun W cx=>as_v (unhide HV _ (ht.kept cx.fr))) ?_
  iterate 3 refine okv ?_
  refine okn ?_
  refine okp ?_
  refine okv ?_
  exact ok_nil
 replace hS:=SymF.fc hS hF [0,1006] [⟨(p1 0).N,#[.int .i64 E,.int .i64 F],23,true⟩,⟨(p3 6).N,#[.bool false,.slice none 0 0,.int .i64 0],30,true⟩]
 replace hG:=hF.gx
 clear hF
 refine wq hS hG hK (fun p4=>[.l 24 (.agg #[.int .i64 E,.int .i64 F]) 0 0,.v 25 (.int .u64 b),.c (some 26) (cV (.tuple #[.agg #[.bool false,.string ⟨#[]⟩,.int .i64 0],.int .i64 err])),.v 23 (.tuple #[.agg #[.bool false,.string ⟨#[]⟩,.int .i64 0],.int .i64 err]),.v 27 (.agg #[.bool false,.string ⟨#[]⟩,.int .i64 0]),.v 28 (.int .i64 err),.n 8 #[.bool false,.string ⟨#[]⟩,.int .i64 0] 35,.p 1006 0 [.bool false,.string ⟨#[]⟩,.int .i64 0],.v 9 (.int .i64 err)]) (fun p4=>[(1,.int .u64 b),(2,pT (p1 0).N 0),(4,.bool false),(5,.bool true),(6,pT (p3 6).N 0),(7,.int .i64 err),(8,pT (p4 6).N 0),(9,.int .i64 err)]) (fun p4=>?_) (fun p4 W4 T hF hK=>?_)
 ·refine okl ?_
  refine okv ?_
  refine okc (fun W cx=>as_v (unhide HA _ (ht.kept cx.fr) (htp.kept cx.fr))) ?_
  iterate 3 refine okv ?_
  refine okn ?_
  refine okp ?_
  refine okv ?_
  exact ok_nil
 replace hS:=SymF.fc hS hF [0,1,1006] [⟨(p1 0).N,#[.int .i64 E,.int .i64 F],23,true⟩,⟨(p3 6).N,#[.bool false,.slice none 0 0,.int .i64 0],30,true⟩,⟨(p4 6).N,#[.bool false,.string ⟨#[]⟩,.int .i64 0],35,true⟩]
 replace hG:=hF.gx
 clear hF
 refine wq hS hG hK (fun p5=>[.l 30 (.agg #[.int .i64 E,.int .i64 F]) 0 0,.v 31 (.int .u64 b),.c (some 32) (cV (.tuple #[.int .i64 0,.int .i64 err])),.v 29 (.tuple #[.int .i64 0,.int .i64 err]),.v 33 (.int .i64 0),.v 34 (.int .i64 err),.v 10 (.int .i64 0),.v 11 (.int .i64 err)]) (fun p5=>[(1,.int .u64 b),(2,pT (p1 0).N 0),(4,.bool false),(5,.bool true),(6,pT (p3 6).N 0),(7,.int .i64 err),(8,pT (p4 6).N 0),(9,.int .i64 err),(10,.int .i64 0),(11,.int .i64 err)]) (fun p5=>?_) (fun p5 W5 T hF hK=>?_)
 ·refine okl ?_
  refine okv ?_
  refine okc (fun W cx=>as_v (unhide HC _ (ht.kept cx.fr) (htp.kept cx.fr))) ?_
  iterate 5 refine okv ?_
  exact ok_nil
 obtain ⟨hS,hG⟩:=SymF.fg hS hF
 clear hF
 refine wp_seq ?_
 refine wq hS hG hK (fun p6=>[.v 35 (.int .i64 err),.v 36 (.bool true)]) (fun p6=>[(1,.int .u64 b),(2,pT (p1 0).N 0),(4,.bool false),(5,.bool true),(6,pT (p3 6).N 0),(7,.int .i64 err),(8,pT (p4 6).N 0),(9,.int .i64 err),(10,.int .i64 0),(11,.int .i64 err),(36,.bool true)]) (fun p6=>?_) (fun p6 W6 T hF hK=>?_)
 ·refine okv ?_
  refine okvb (bne_iff_ne.2 (show err≠0 by omega)) ?_
  exact ok_nil
 obtain ⟨hS,hG⟩:=SymF.fg hS hF
 clear hF
 refine wp_cond_true (hK.ew 36) ?_
 refine wq hS hG hK (fun p7=>[.v 37 (.bool true),.v 38 (.bool true),.v 39 (.int .i64 err),.v 40 (.int .i64 err),.v 41 (.bool true),.v 42 (.bool true),.v 43 (.bool true),.v 44 (.int .i64 err),.v 45 (.int .i64 err),.v 46 (.bool true),.v 47 (.bool true),.v 48 (.bool true),.l 49 (.agg #[.bool false,.string ⟨#[]⟩,.int .i64 0]) 2 0,.v 50 (.agg #[.bool false,.string ⟨#[]⟩,.int .i64 0]),.v 51 (.bool true),.v 52 (.bool true),.v 53 (.bool true),.v 54 (.int .i64 0),.v 55 (.bool true),.v 56 (.bool true),.v 4 (.bool true)]) (fun p7=>[(1,.int .u64 b),(2,pT (p1 0).N 0),(4,.bool true),(5,.bool true),(6,pT (p3 6).N 0),(8,pT (p4 6).N 0),(9,.int .i64 err),(10,.int .i64 0),(11,.int .i64 err),(36,.bool true)]) (fun p7=>?_) (fun p7 W7 T hF hK=>?_)
 ·iterate 4 refine okv ?_
  refine okvb (beq_self_eq_true err) ?_
  iterate 4 refine okv ?_
  refine okvb (beq_self_eq_true err) ?_
  iterate 2 refine okv ?_
  refine okl ?_
  refine okv ?_
  refine ok_vr (dc_eql (false) (⟨#[]⟩) (0)) (by kernel_rfl) ?_
  iterate 6 refine okv ?_
  exact ok_nil
 obtain ⟨hS,hG⟩:=SymF.fg hS hF
 clear hF
 refine wp_ret ?_
 refine then_r ?_
 exact sym_end hS hK (.bool true) [] [] (by kernel_rfl) (by kernel_rfl) ⟨rfl,hS.fr⟩
theorem dworth_ok (w:World) (E F b m va da q:Nat) (sa g:Bool) (x x3:Int) (s3:ByteArray) (hE:E≤100) (hF:F≤100) (hq:((b:Int)).fdiv (2 ^ min (((E:Int)+(F:Int))).toNat 64) = (q:Int)) (hg:((q:Int) == 1) = g) (ht:Tb w) (htp:Tpw w) (HL:Hid (∀ W:World,Tb W→Tpw W→Calls Tryz.prog 7 #[] W fun e W'=>e = .returned (.bool true)∧Below W.heap.size W W')) (HV:Hid (Vals E F b sa m x)) (HA:Hid (∀ W:World,Tb W→Tpw W→Calls Tryz.prog 9 #[.agg #[.int .i64 (E:Int),.int .i64 (F:Int)],.int .u64 (b:Int)] W fun e W'=>e = .returned (.tuple #[.agg #[.bool g,.string s3,.int .i64 x3],.int .i64 0])∧Below W.heap.size W W')) (HC:Hid (∀ W:World,Tb W→Tpw W→Calls Tryz.prog 10 #[.agg #[.int .i64 (E:Int),.int .i64 (F:Int)],.int .u64 (b:Int)] W fun e W'=>e = .returned (.tuple #[.int .i64 (s3.size:Int),.int .i64 0])∧Below W.heap.size W W')) (HR:Hid (∀ (W:World) (A:Option Addr) (N C:Nat),Num W A N m→Calls Tryz.prog 11 #[.agg #[.bool sa,.slice A N C,.int .i64 x]] W fun e W'=>(∃ A N C A' N' C',e = .returned (.tuple #[.agg #[.bool sa,.slice A N C,.slice A' N' C'],.int .i64 0])∧Mine W' W.heap.size A N C va∧Mine W' W.heap.size A' N' C' da)∧Below W.heap.size W W')) (HQ:Hid (∀ W:World,Calls Tryz.prog 12 #[.agg #[.bool g,.string s3,.int .i64 x3]] W fun e W'=>(∃ A N C A' N' C',e = .returned (.tuple #[.agg #[.bool sa,.slice A N C,.slice A' N' C'],.int .i64 0])∧Mine W' W.heap.size A N C va∧Mine W' W.heap.size A' N' C' da)∧Below W.heap.size W W')) (HX:Hid (∀ (W:World) (a:Option Addr) (n c:Nat) (b:Option Addr) (k l:Nat) (a':Option Addr) (n' c':Nat) (b':Option Addr) (k' l':Nat),Num W a n va→Num W b k da→Num W a' n' va→Num W b' k' da→Calls Tryz.prog 13 #[.agg #[.bool sa,.slice a n c,.slice b k l],.agg #[.bool sa,.slice a' n' c',.slice b' k' l']] W fun e W'=>e = .returned (.bool true)∧Below W.heap.size W W')) (HK:Hid (∀ W:World,Calls Tryz.prog 14 #[.agg #[.bool g,.string s3,.int .i64 x3]] W fun e W'=>e = .returned (.int .i64 0)∧Below W.heap.size W W')) :
  Calls Tryz.prog 3 #[.agg #[.int .i64 (E:Int),.int .i64 (F:Int)],.int .u64 (b:Int)] w fun en w'=>en = .returned (.bool true)∧Below w.heap.size w w':=by
 refine calls_sym Tryz.func3 rfl (by kernel_rfl) fun T hK=>?_
 replace hK:Kn T _ [(0,.agg #[.int .i64 (E:Int),.int .i64 (F:Int)]),(1,.int .u64 (b:Int))]:=hK
 have hS:=Fb.begin w
 have hG:GsAt [] w:=trivial
 refine wq hS hG hK (fun p1=>[.n 2 #[.int .i64 (E:Int),.int .i64 (F:Int)] 23,.v 4 (.bool false)]) (fun p1=>[(1,.int .u64 (b:Int)),(2,pT (p1 0).N 0),(4,.bool false)]) (fun p1=>?_) (fun p1 W1 T hF hK=>?_)
 ·refine okn ?_
  refine okv ?_
  exact ok_nil
 replace hS:=SymF.fc hS hF [1000] [⟨(p1 0).N,#[.int .i64 (E:Int),.int .i64 (F:Int)],23,true⟩]
 replace hG:=hF.gx
 clear hF
 refine wq hS hG hK (fun p2=>[.c (some 16) (cV (.bool true)),.v 5 (.bool true)]) (fun p2=>[(1,.int .u64 (b:Int)),(2,pT (p1 0).N 0),(4,.bool false),(5,.bool true)]) (fun p2=>?_) (fun p2 W2 T hF hK=>?_)
 ·refine okc (fun W cx=>as_v (unhide HL _ (ht.kept cx.fr) (htp.kept cx.fr))) ?_
  refine okv ?_
  exact ok_nil
 obtain ⟨hS,hG⟩:=SymF.fg hS hF
 clear hF
 refine wq hS hG hK (fun p3=>[.l 18 (.agg #[.int .i64 (E:Int),.int .i64 (F:Int)]) 0 0,.v 19 (.int .u64 (b:Int)),.c (some 20) (cG W2.heap.size m fun x9=>.tuple #[.agg #[.bool sa,x9,.int .i64 x],.int .i64 0]),.v 17 (.tuple #[.agg #[.bool sa,.slice (p3 2).A (p3 2).N (p3 2).C,.int .i64 x],.int .i64 0]),.v 21 (.agg #[.bool sa,.slice (p3 2).A (p3 2).N (p3 2).C,.int .i64 x]),.v 22 (.int .i64 0),.n 6 #[.bool false,.slice none 0 0,.int .i64 0] 30,.p 1006 0 [.bool sa,.slice (p3 2).A (p3 2).N (p3 2).C,.int .i64 x],.v 7 (.int .i64 0)]) (fun p3=>[(1,.int .u64 (b:Int)),(2,pT (p1 0).N 0),(4,.bool false),(5,.bool true),(6,pT (p3 6).N 0),(7,.int .i64 0)]) (fun p3=>?_) (fun p3 W3 T hF hK=>?_)
 ·refine okl ?_
  refine okv ?_
  refine okc (fun W cx=>as_g cx.hb (unhide HV _ (ht.kept cx.fr))) ?_
  iterate 3 refine okv ?_
  refine okn ?_
  refine okp ?_
  refine okv ?_
  exact ok_nil
 replace hS:=SymF.fc hS hF [0,1006] [⟨(p1 0).N,#[.int .i64 (E:Int),.int .i64 (F:Int)],23,true⟩,⟨(p3 6).N,#[.bool sa,.slice (p3 2).A (p3 2).N (p3 2).C,.int .i64 x],30,true⟩]
 replace hG:GsAt (gM W2.heap.size (p3 2).A (p3 2).N (p3 2).C m :: _) W3:=⟨hF.fx 2,hF.gx⟩
 clear hF
 refine wq hS hG hK (fun p4=>[.l 24 (.agg #[.int .i64 (E:Int),.int .i64 (F:Int)]) 0 0,.v 25 (.int .u64 (b:Int)),.c (some 26) (cV (.tuple #[.agg #[.bool g,.string s3,.int .i64 x3],.int .i64 0])),.v 23 (.tuple #[.agg #[.bool g,.string s3,.int .i64 x3],.int .i64 0]),.v 27 (.agg #[.bool g,.string s3,.int .i64 x3]),.v 28 (.int .i64 0),.n 8 #[.bool false,.string ⟨#[]⟩,.int .i64 0] 35,.p 1006 0 [.bool g,.string s3,.int .i64 x3],.v 9 (.int .i64 0)]) (fun p4=>[(1,.int .u64 (b:Int)),(2,pT (p1 0).N 0),(4,.bool false),(5,.bool true),(6,pT (p3 6).N 0),(7,.int .i64 0),(8,pT (p4 6).N 0),(9,.int .i64 0)]) (fun p4=>?_) (fun p4 W4 T hF hK=>?_)
 ·refine okl ?_
  refine okv ?_
  refine okc (fun W cx=>as_v (unhide HA _ (ht.kept cx.fr) (htp.kept cx.fr))) ?_
  iterate 3 refine okv ?_
  refine okn ?_
  refine okp ?_
  refine okv ?_
  exact ok_nil
 replace hS:=SymF.fc hS hF [0,1,1006] [⟨(p1 0).N,#[.int .i64 (E:Int),.int .i64 (F:Int)],23,true⟩,⟨(p3 6).N,#[.bool sa,.slice (p3 2).A (p3 2).N (p3 2).C,.int .i64 x],30,true⟩,⟨(p4 6).N,#[.bool g,.string s3,.int .i64 x3],35,true⟩]
 replace hG:=hF.gx
 clear hF
 refine wq hS hG hK (fun p5=>[.l 30 (.agg #[.int .i64 (E:Int),.int .i64 (F:Int)]) 0 0,.v 31 (.int .u64 (b:Int)),.c (some 32) (cV (.tuple #[.int .i64 (s3.size:Int),.int .i64 0])),.v 29 (.tuple #[.int .i64 (s3.size:Int),.int .i64 0]),.v 33 (.int .i64 (s3.size:Int)),.v 34 (.int .i64 0),.v 10 (.int .i64 (s3.size:Int)),.v 11 (.int .i64 0)]) (fun p5=>[(1,.int .u64 (b:Int)),(2,pT (p1 0).N 0),(4,.bool false),(5,.bool true),(6,pT (p3 6).N 0),(7,.int .i64 0),(8,pT (p4 6).N 0),(9,.int .i64 0),(10,.int .i64 (s3.size:Int)),(11,.int .i64 0)]) (fun p5=>?_) (fun p5 W5 T hF hK=>?_)
 ·refine okl ?_
  refine okv ?_
  refine okc (fun W cx=>as_v (unhide HC _ (ht.kept cx.fr) (htp.kept cx.fr))) ?_
  iterate 5 refine okv ?_
  exact ok_nil
 obtain ⟨hS,hG⟩:=SymF.fg hS hF
 clear hF
 refine wp_seq ?_
 refine wq hS hG hK (fun p6=>[.v 35 (.int .i64 0),.v 36 (.bool false)]) (fun p6=>[(1,.int .u64 (b:Int)),(2,pT (p1 0).N 0),(4,.bool false),(5,.bool true),(6,pT (p3 6).N 0),(7,.int .i64 0),(8,pT (p4 6).N 0),(9,.int .i64 0),(10,.int .i64 (s3.size:Int)),(11,.int .i64 0),(36,.bool false)]) (fun p6=>?_) (fun p6 W6 T hF hK=>?_)
 ·iterate 2 refine okv ?_
  exact ok_nil
 obtain ⟨hS,hG⟩:=SymF.fg hS hF
 clear hF
 refine wp_cond_false (hK.ew 36) (wp_skip (then_n ?_))
 refine wq hS hG hK (fun p7=>[.l 58 (.agg #[.bool sa,.slice (p3 2).A (p3 2).N (p3 2).C,.int .i64 x]) 1 0,.c (some 59) (cH W6.heap.size va da fun x9 y9=>.tuple #[.agg #[.bool sa,x9,y9],.int .i64 0]),.v 57 (.tuple #[.agg #[.bool sa,.slice (p7 1).A (p7 1).N (p7 1).C,.slice (p7 1).A' (p7 1).N' (p7 1).C'],.int .i64 0]),.v 60 (.agg #[.bool sa,.slice (p7 1).A (p7 1).N (p7 1).C,.slice (p7 1).A' (p7 1).N' (p7 1).C']),.v 61 (.int .i64 0),.n 12 #[.bool false,.slice none 0 0,.slice none 0 0] 41,.p 1005 0 [.bool sa,.slice (p7 1).A (p7 1).N (p7 1).C,.slice (p7 1).A' (p7 1).N' (p7 1).C'],.v 13 (.int .i64 0)]) (fun p7=>[(1,.int .u64 (b:Int)),(2,pT (p1 0).N 0),(4,.bool false),(5,.bool true),(7,.int .i64 0),(8,pT (p4 6).N 0),(9,.int .i64 0),(10,.int .i64 (s3.size:Int)),(11,.int .i64 0),(12,pT (p7 5).N 0),(13,.int .i64 0),(36,.bool false)]) (fun p7=>?_) (fun p7 W7 T hF hK=>?_)
 ·refine okl ?_
  refine okc (fun W cx=>as_h cx.hb (unhide HR _ _ _ (p3 2).C (Mine.num cx.G.1))) ?_
  iterate 3 refine okv ?_
  refine okn ?_
  refine okp ?_
  refine okv ?_
  exact ok_nil
 replace hS:=SymF.fc hS hF [0,2,1005] [⟨(p1 0).N,#[.int .i64 (E:Int),.int .i64 (F:Int)],23,true⟩,⟨(p4 6).N,#[.bool g,.string s3,.int .i64 x3],35,true⟩,⟨(p7 5).N,#[.bool sa,.slice (p7 1).A (p7 1).N (p7 1).C,.slice (p7 1).A' (p7 1).N' (p7 1).C'],41,true⟩]
 replace hG:GsAt (gM W6.heap.size (p7 1).A (p7 1).N (p7 1).C va :: gM W6.heap.size (p7 1).A' (p7 1).N' (p7 1).C' da :: _) W7:=⟨And.left (hF.fx 1),And.right (hF.fx 1),hF.gx⟩
 clear hF
 refine wq hS hG hK (fun p8=>[.l 63 (.agg #[.bool g,.string s3,.int .i64 x3]) 1 0,.c (some 64) (cH W7.heap.size va da fun x9 y9=>.tuple #[.agg #[.bool sa,x9,y9],.int .i64 0]),.v 62 (.tuple #[.agg #[.bool sa,.slice (p8 1).A (p8 1).N (p8 1).C,.slice (p8 1).A' (p8 1).N' (p8 1).C'],.int .i64 0]),.v 65 (.agg #[.bool sa,.slice (p8 1).A (p8 1).N (p8 1).C,.slice (p8 1).A' (p8 1).N' (p8 1).C']),.v 66 (.int .i64 0),.n 14 #[.bool false,.slice none 0 0,.slice none 0 0] 41,.p 1005 0 [.bool sa,.slice (p8 1).A (p8 1).N (p8 1).C,.slice (p8 1).A' (p8 1).N' (p8 1).C'],.v 15 (.int .i64 0)]) (fun p8=>[(1,.int .u64 (b:Int)),(2,pT (p1 0).N 0),(4,.bool false),(5,.bool true),(7,.int .i64 0),(8,pT (p4 6).N 0),(9,.int .i64 0),(10,.int .i64 (s3.size:Int)),(11,.int .i64 0),(12,pT (p7 5).N 0),(13,.int .i64 0),(14,pT (p8 5).N 0),(15,.int .i64 0),(36,.bool false)]) (fun p8=>?_) (fun p8 W8 T hF hK=>?_)
 ·refine okl ?_
  refine okc (fun W cx=>as_h cx.hb (unhide HQ _)) ?_
  iterate 3 refine okv ?_
  refine okn ?_
  refine okp ?_
  refine okv ?_
  exact ok_nil
 replace hS:=SymF.fc hS hF [0,1,2,1005] [⟨(p1 0).N,#[.int .i64 (E:Int),.int .i64 (F:Int)],23,true⟩,⟨(p4 6).N,#[.bool g,.string s3,.int .i64 x3],35,true⟩,⟨(p7 5).N,#[.bool sa,.slice (p7 1).A (p7 1).N (p7 1).C,.slice (p7 1).A' (p7 1).N' (p7 1).C'],41,true⟩,⟨(p8 5).N,#[.bool sa,.slice (p8 1).A (p8 1).N (p8 1).C,.slice (p8 1).A' (p8 1).N' (p8 1).C'],41,true⟩]
 replace hG:GsAt (gM W7.heap.size (p8 1).A (p8 1).N (p8 1).C va :: gM W7.heap.size (p8 1).A' (p8 1).N' (p8 1).C' da :: _) W8:=⟨And.left (hF.fx 1),And.right (hF.fx 1),hF.gx⟩
 clear hF
 refine wq hS hG hK (fun p9=>[.v 67 (.bool true),.v 68 (.bool true),.v 69 (.int .i64 0),.v 70 (.bool true),.v 71 (.bool true),.v 72 (.bool true),.v 73 (.int .i64 0),.v 74 (.bool true),.v 75 (.bool true),.v 76 (.bool true),.v 77 (.int .i64 0),.v 78 (.bool true),.v 79 (.bool true),.v 80 (.bool true),.v 81 (.int .i64 0),.v 82 (.bool true),.v 83 (.bool true),.v 84 (.bool true),.l 85 (.agg #[.bool sa,.slice (p7 1).A (p7 1).N (p7 1).C,.slice (p7 1).A' (p7 1).N' (p7 1).C']) 2 0,.l 86 (.agg #[.bool sa,.slice (p8 1).A (p8 1).N (p8 1).C,.slice (p8 1).A' (p8 1).N' (p8 1).C']) 3 0,.c (some 87) (cV (.bool true)),.v 88 (.bool true),.v 89 (.bool true),.v 90 (.int .i64 (s3.size:Int)),.v 91 (pT (p4 6).N 1),.l 92 (.string s3) 1 1,.v 93 (.int .i64 (s3.size:Int)),.v 94 (.bool true),.v 95 (.bool true),.v 96 (.bool true),.v 97 (pT (p4 6).N 0),.l 98 (.bool g) 1 0,.v 99 (.int .u64 (b:Int)),.v 100 (pT (p1 0).N 0),.l 101 (.int .i64 (E:Int)) 0 0,.v 102 (pT (p1 0).N 1),.l 103 (.int .i64 (F:Int)) 0 1,.v 104 (.int .i64 ((E:Int)+(F:Int))),.v 105 (.int .u64 ((E:Int)+(F:Int))),.v 106 (.int .u64 (q:Int)),.v 107 (.bool g),.v 108 (.bool true),.v 109 (.bool true),.v 110 (.bool true),.l 111 (.agg #[.bool g,.string s3,.int .i64 x3]) 1 0,.c (some 112) (cV (.int .i64 0)),.v 113 (.bool true),.v 114 (.bool true),.v 4 (.bool true)]) (fun p9=>[(4,.bool true),(5,.bool true),(7,.int .i64 0),(8,pT (p4 6).N 0),(9,.int .i64 0),(10,.int .i64 (s3.size:Int)),(11,.int .i64 0),(36,.bool false)]) (fun p9=>?_) (fun p9 W9 T hF hK=>?_)
 ·iterate 18 refine okv ?_
  iterate 2 refine okl ?_
  refine okc (fun W cx=>as_v (unhide HX _ _ _ (p7 1).C _ _ (p7 1).C' _ _ (p8 1).C _ _ (p8 1).C' (Mine.num cx.G.2.2.1) (Mine.num cx.G.2.2.2.1) (Mine.num cx.G.1) (Mine.num cx.G.2.1))) ?_
  iterate 4 refine okv ?_
  refine okl ?_
  refine okv ?_
  refine okvb (beq_self_eq_true (s3.size:Int)) ?_
  iterate 3 refine okv ?_
  refine okl ?_
  iterate 2 refine okv ?_
  refine okl ?_
  refine okv ?_
  refine okl ?_
  refine okvi (wr64 (x:=(E:Int)+(F:Int)) (by omega) (by omega)) ?_
  refine okvi (show IntKind.u64.wrap ((E:Int)+(F:Int)) = (E:Int)+(F:Int) by rw [IntKind.wrap_u64]; omega) ?_
  refine okvi (hq) ?_
  refine okvb (hg) ?_
  refine okvb (beq_self_eq_true g) ?_
  iterate 2 refine okv ?_
  refine okl ?_
  refine okc (fun W cx=>as_v (unhide HK _)) ?_
  iterate 3 refine okv ?_
  exact ok_nil
 replace hS:=SymF.fc hS hF [1] [⟨(p4 6).N,#[.bool g,.string s3,.int .i64 x3],35,true⟩]
 replace hG:=hF.gx
 clear hF
 refine wp_ret ?_
 exact sym_end hS hK (.bool true) [] [] (by kernel_rfl) (by kernel_rfl) ⟨rfl,hS.fr⟩
end Go.Proofs.YteafdlblemdclaaGreatDoor
