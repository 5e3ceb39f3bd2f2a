/- Of what DigitsSureRow stands on: DbEq DcNearN DcDifN DgEq DgLawW DgEnW DgSuW. -/
import Derived.Test.YteafdlblemdclaaGreatDoorPbe
import Derived.Test.YteafdlblemdclaaGreatDoorPbi
import Derived.Test.YteafdlblemdclaaGreatDoorPbd
import Derived.Test.YteafdlblemdclaaGreatDoorPad
namespace Go.Proofs.YteafdlblemdclaaGreatDoor
open Go.RowKit
set_option maxHeartbeats 4000000
set_option maxRecDepth 20000
theorem dbe_under:Tryz.prog.underlying 35 = some (.struct (Tryz.prog.fieldsOf 35)):=by kernel_rfl
theorem dbe_eq {r:Nat} (g:Bool) (s:ByteArray) (x:Int):script Tryz.prog r (Op.equal 35 (.agg #[.bool g,.string s,.int .i64 x]) (.agg #[.bool g,.string s,.int .i64 x])) [] = some (true,[]):=by
 have hE:script Tryz.prog r (Op.equalIn (9999+1) 35 (.agg #[.bool g,.string s,.int .i64 x]) (.agg #[.bool g,.string s,.int .i64 x])) [] = some (true,[]):=by
  refine script_struct 9999 _ _ _ dbe_under (by kernel_rfl) ?_
  have n1 : (Tryz.prog.fieldsOf 35).toList.map (fun f => (f.name, f.type, f.offset)) = [("Neg", 4, 0), ("Digits", 9, 1), ("Exp", 3, 2)] := by kernel_rfl
  generalize (Tryz.prog.fieldsOf 35).toList = fs at n1 ⊢
  rcases fs with _|⟨f1,_|⟨f2,_|⟨f3,_|⟨f4,fs⟩⟩⟩⟩ <;> simp only [List.map_cons,List.map_nil,List.cons.injEq,Prod.mk.injEq,and_true,reduceCtorEq,and_false] at n1
  obtain ⟨⟨a1,a2,a3⟩,⟨b1,b2,b3⟩,c1,c2,c3⟩:=n1
  rw [Op.eqFields,if_pos (by rw [a1]; decide),a2,a3,script_bind Tryz.prog r _ _ [] (.bool g) (by kernel_rfl),script_bind Tryz.prog r _ _ [] (.bool g) (by kernel_rfl),script_bind Tryz.prog r _ _ [] _ (script_eqb g (by kernel_rfl)),if_neg (by decide)]
  rw [Op.eqFields,if_pos (by rw [b1]; decide),b2,b3,script_bind Tryz.prog r _ _ [] (.string s) (by kernel_rfl),script_bind Tryz.prog r _ _ [] (.string s) (by kernel_rfl),script_bind Tryz.prog r _ _ [] _ (script_eqs s (by kernel_rfl)),if_neg (by decide)]
  rw [Op.eqFields,if_pos (by rw [c1]; decide),c2,c3,script_bind Tryz.prog r _ _ [] (.int .i64 x) (by kernel_rfl),script_bind Tryz.prog r _ _ [] (.int .i64 x) (by kernel_rfl),script_bind Tryz.prog r _ _ [] _ (script_eqi x (by kernel_rfl)),if_neg (by decide)]
  rfl
 unfold Op.equal Op.maxDepth
 rw [show (10000:Nat) = 9999+1 from rfl]
 exact hE
def rdist (c R:Nat) (up:Bool):Nat:=if up then 10 ^ c - R else R
theorem ten_half {c:Nat} (h:0 < c):10 ^ c = 2 * (5 * 10 ^ (c - 1)):=by
 obtain ⟨k,rfl⟩:∃ k,c = k+1:=⟨c - 1,by omega⟩
 rw [Nat.pow_succ,Nat.add_sub_cancel]
 omega
theorem Rnd.dist {s:ByteArray} {g:Bool} {md c Q R:Nat} {up:Bool} (h:Rnd s g md c Q R up) (hc:0 < c) (hmd:md≤4) :
  0 < rdist c R up∧rdist c R up < 10 ^ c ∧
  (up = true→(Q+(if up then 1 else 0)) * 10 ^ c = valS s+rdist c R up) ∧
  (up = false→valS s = (Q+(if up then 1 else 0)) * 10 ^ c+rdist c R up) ∧
  (md = 3→up = !g)∧(md = 4→up = g)∧(md = 2→up = false) ∧
  (md≤1→rdist c R up≤5 * 10 ^ (c - 1)):=by
 obtain ⟨hv,hp,hl,hu⟩:=h
 have ht:=ten_half hc
 unfold rdist
 refine ⟨?_,?_,?_,?_,?_,?_,?_,?_⟩
 ·cases up <;> simp <;> omega
 ·cases up <;> simp <;> omega
 ·rintro rfl
  rw [if_pos rfl,if_pos rfl,hv,Nat.add_mul]
  omega
 ·rintro rfl
  rw [if_neg (by decide),if_neg (by decide),hv,Nat.add_zero]
 ·rintro rfl
  exact hu
 ·rintro rfl
  exact hu
 ·rintro rfl
  exact hu
 ·intro h1
  have h01:md = 0∨md = 1:=by omega
  generalize 5 * 10 ^ (c - 1) = H at *
  have hz:(R < H∧cmpZ (R:Int) (H:Int) = -1)∨(H < R∧cmpZ (R:Int) (H:Int) = 1)∨(R = H∧cmpZ (R:Int) (H:Int) = 0):=by
   unfold cmpZ
   rcases Nat.lt_trichotomy R H with q|q|q
   ·exact Or.inl ⟨q,if_pos (by omega)⟩
   ·exact Or.inr (Or.inr ⟨q,by rw [if_neg (by omega),if_neg (by omega)]⟩)
   ·exact Or.inr (Or.inl ⟨q,by rw [if_neg (by omega),if_pos (by omega)]⟩)
  rcases hz with ⟨q,e⟩|⟨q,e⟩|⟨q,e⟩
  ·have:up = false:=by
    rw [hu,e]
    rcases h01 with rfl|rfl <;> simp [gOut]
   subst this
   simp; omega
  ·have:up = true:=by
    rw [hu,e]
    rcases h01 with rfl|rfl <;> simp [gOut]
   subst this
   simp; omega
  ·cases up <;> simp <;> omega
theorem DcOk.lst {s:ByteArray} {x:Int} (h:DcOk s x):∀ k,(hk:k+1 = s.size)→(s[k]'(by omega)).toNat≠48:=fun k hk=>by
 refine h.cd.2 _ ?_
 have hz:s.data.size = s.size:=rfl
 rw [List.getLast?_eq_getElem?,Array.length_toList,List.getElem?_eq_getElem (by rw [Array.length_toList]; omega)]
 have hk2:s.data.size - 1 = k:=by omega
 subst hk2
 rfl
theorem DcOk.chk {s:ByteArray} {x:Int} (h:DcOk s x) (g:Bool) (W:World) :
  Calls Tryz.prog 14 #[.agg #[.bool g,.string s,.int .i64 x]] W fun en W'=>en = .returned (.int .i64 0)∧Below W.heap.size W W':=by
 by_cases h0:s.size = 0
 ·exact dck_z0 W g s x h.sz h0 (h.zero h0)
 ·exact chk_good g s x h.sz h0 h.ok h.fst h.lst h.lo h.hi W
def apart (M N:Nat):Nat:=if N < M then M - N else N - M
theorem mkA_near {g:Bool} {D:Nat} {x:Int} {V:Value} (h:MkA g D x V) (h0:D≠0) (hD:D < tenTop 65536) (hx0:-1073741824≤x) (hx1:x≤1000000000) :
  ∃ (s3:ByteArray) (z:Nat),V = .tuple #[.agg #[.bool g,.string s3,.int .i64 (x+(z:Int))],.int .i64 0]∧DcOk s3 (x+(z:Int))∧valS s3 * 10 ^ z = D:=by
 rcases h with ⟨e,_⟩|⟨t,n,z,h1,h10,hS,h⟩
 ·exact absurd e h0
 have hz:z < 65536:=by
  rcases Nat.lt_or_ge z 65536 with q|q
  ·exact q
  ·exfalso
   have a1:=tenTop_le q
   have a2:10 ^ z≤n * 10 ^ z:=Nat.le_mul_of_pos_left _ (by omega)
   omega
 have hle:n≤D:=by rw [h1]; exact Nat.le_mul_of_pos_right _ (Nat.pow_pos (by omega))
 rcases h with ⟨hr,_⟩|⟨hr,hV⟩
 ·omega
 ·obtain ⟨k1,k2,_⟩:=says_ok hS h10 (Nat.lt_of_le_of_lt hle hD) (y:=x+(z:Int)) (by omega) (by omega)
  exact ⟨t,z,hV,k1,by rw [k2,h1]⟩
theorem dc_eql {r:Nat} (g:Bool) (s:ByteArray) (x:Int):script Tryz.prog r (binOp .eql 35 (.agg #[.bool g,.string s,.int .i64 x]) (.agg #[.bool g,.string s,.int .i64 x])) [] = some (.bool true,[]):=by
 simp only [binOp]
 rw [script_bind Tryz.prog r (Op.equal _ _ _) _ [] true (dbe_eq g s x)]
 rfl
theorem dalive_is (w:World)  (ht:Tb w) (htp:Tpw w) (H1:Hid (∀ W:World,Tb W→Tpw W→Calls Tryz.prog 9 #[.agg #[.int .i64 5,.int .i64 10],.int .u64 11878] W fun e W'=>e = .returned (.tuple #[.agg #[.bool false,.string ⟨#[57,57,57,55,53,53,56,53,57,51,55,53]⟩,.int .i64 (-13)],.int .i64 0])∧Below W.heap.size W W')) (H2:Hid (∀ W:World,Tb W→Tpw W→Calls Tryz.prog 15 #[.agg #[.int .i64 5,.int .i64 10],.int .u64 11878,.int .i64 3,.int .u8 0] W fun e W'=>e = .returned (.tuple #[.agg #[.bool false,.string ⟨#[49]⟩,.int .i64 (-1)],.bool false,.int .i64 0])∧Below W.heap.size W W')) (H3:Hid (∀ W:World,Tb W→Tpw W→Calls Tryz.prog 16 #[.agg #[.int .i64 5,.int .i64 10],.int .u64 32769,.int .i64 3,.int .u8 4] W fun e W'=>e = .returned (.tuple #[.agg #[.bool true,.string ⟨#[49]⟩,.int .i64 (-3)],.bool false,.int .i64 0])∧Below W.heap.size W W')) (H4:Hid (∀ W:World,Calls Tryz.prog 19 #[.agg #[.int .i64 5,.int .i64 10]] W fun e W'=>e = .returned (.tuple #[.int .i64 5,.int .i64 0])∧Below W.heap.size W W')) (H5:Hid (∀ W:World,Calls Tryz.prog 22 #[.agg #[.int .i64 5,.int .i64 10]] W fun e W'=>e = .returned (.tuple #[.int .i64 3,.int .i64 0])∧Below W.heap.size W W')) :
  Calls Tryz.prog 7 #[] w fun en w'=>en = .returned (.bool true)∧Below w.heap.size w w':=by
 refine calls_sym Tryz.func7 rfl (by kernel_rfl) fun T hK=>?_
 replace hK:Kn T _ []:=hK
 have hS:=Fb.begin w
 have hG:GsAt [] w:=trivial
 refine wq hS hG hK (fun p1=>[.v 0 (.bool false)]) (fun p1=>[(0,.bool false)]) (fun p1=>?_) (fun p1 W1 T hF hK=>?_)
 ·refine okv ?_
  exact ok_nil
 replace hS:=SymF.fc hS hF [] []
 replace hG:=hF.gx
 clear hF
 refine wq hS hG hK (fun p2=>[.v 14 (.agg #[.int .i64 5,.int .i64 10]),.n 1 #[.int .i64 0,.int .i64 0] 23,.p 1001 0 [.int .i64 5,.int .i64 10]]) (fun p2=>[(0,.bool false),(1,pT (p2 1).N 0)]) (fun p2=>?_) (fun p2 W2 T hF hK=>?_)
 ·refine okv ?_
  refine okn ?_
  refine okp ?_
  exact ok_nil
 replace hS:=SymF.fc hS hF [1001] [⟨(p2 1).N,#[.int .i64 5,.int .i64 10],23,true⟩]
 replace hG:=hF.gx
 clear hF
 refine wq hS hG hK (fun p3=>[.l 16 (.agg #[.int .i64 5,.int .i64 10]) 0 0,.c (some 17) (cV (.tuple #[.agg #[.bool false,.string ⟨#[57,57,57,55,53,53,56,53,57,51,55,53]⟩,.int .i64 (-13)],.int .i64 0])),.v 15 (.tuple #[.agg #[.bool false,.string ⟨#[57,57,57,55,53,53,56,53,57,51,55,53]⟩,.int .i64 (-13)],.int .i64 0]),.v 18 (.agg #[.bool false,.string ⟨#[57,57,57,55,53,53,56,53,57,51,55,53]⟩,.int .i64 (-13)]),.v 19 (.int .i64 0),.n 2 #[.bool false,.string ⟨#[]⟩,.int .i64 0] 35,.p 1005 0 [.bool false,.string ⟨#[57,57,57,55,53,53,56,53,57,51,55,53]⟩,.int .i64 (-13)],.v 3 (.int .i64 0)]) (fun p3=>[(0,.bool false),(1,pT (p2 1).N 0),(2,pT (p3 5).N 0),(3,.int .i64 0)]) (fun p3=>?_) (fun p3 W3 T hF hK=>?_)
 ·refine okl ?_
  refine okc (fun W cx=>as_v (unhide H1 _ (ht.kept cx.fr) (htp.kept cx.fr))) ?_
  iterate 3 refine okv ?_
  refine okn ?_
  refine okp ?_
  refine okv ?_
  exact ok_nil
 replace hS:=SymF.fc hS hF [0,1005] [⟨(p2 1).N,#[.int .i64 5,.int .i64 10],23,true⟩,⟨(p3 5).N,#[.bool false,.string ⟨#[57,57,57,55,53,53,56,53,57,51,55,53]⟩,.int .i64 (-13)],35,true⟩]
 replace hG:=hF.gx
 clear hF
 refine wq hS hG hK (fun p4=>[.l 21 (.agg #[.int .i64 5,.int .i64 10]) 0 0,.c (some 22) (cV (.tuple #[.agg #[.bool false,.string ⟨#[49]⟩,.int .i64 (-1)],.bool false,.int .i64 0])),.v 20 (.tuple #[.agg #[.bool false,.string ⟨#[49]⟩,.int .i64 (-1)],.bool false,.int .i64 0]),.v 23 (.agg #[.bool false,.string ⟨#[49]⟩,.int .i64 (-1)]),.v 24 (.bool false),.v 25 (.int .i64 0),.n 4 #[.bool false,.string ⟨#[]⟩,.int .i64 0] 35,.p 1006 0 [.bool false,.string ⟨#[49]⟩,.int .i64 (-1)],.v 5 (.bool false),.v 6 (.int .i64 0)]) (fun p4=>[(0,.bool false),(1,pT (p2 1).N 0),(2,pT (p3 5).N 0),(3,.int .i64 0),(4,pT (p4 6).N 0),(5,.bool false),(6,.int .i64 0)]) (fun p4=>?_) (fun p4 W4 T hF hK=>?_)
 ·refine okl ?_
  refine okc (fun W cx=>as_v (unhide H2 _ (ht.kept cx.fr) (htp.kept cx.fr))) ?_
  iterate 4 refine okv ?_
  refine okn ?_
  refine okp ?_
  iterate 2 refine okv ?_
  exact ok_nil
 replace hS:=SymF.fc hS hF [0,1,1006] [⟨(p2 1).N,#[.int .i64 5,.int .i64 10],23,true⟩,⟨(p3 5).N,#[.bool false,.string ⟨#[57,57,57,55,53,53,56,53,57,51,55,53]⟩,.int .i64 (-13)],35,true⟩,⟨(p4 6).N,#[.bool false,.string ⟨#[49]⟩,.int .i64 (-1)],35,true⟩]
 replace hG:=hF.gx
 clear hF
 refine wq hS hG hK (fun p5=>[.l 27 (.agg #[.int .i64 5,.int .i64 10]) 0 0,.c (some 28) (cV (.tuple #[.agg #[.bool true,.string ⟨#[49]⟩,.int .i64 (-3)],.bool false,.int .i64 0])),.v 26 (.tuple #[.agg #[.bool true,.string ⟨#[49]⟩,.int .i64 (-3)],.bool false,.int .i64 0]),.v 29 (.agg #[.bool true,.string ⟨#[49]⟩,.int .i64 (-3)]),.v 30 (.bool false),.v 31 (.int .i64 0),.n 7 #[.bool false,.string ⟨#[]⟩,.int .i64 0] 35,.p 1006 0 [.bool true,.string ⟨#[49]⟩,.int .i64 (-3)],.v 8 (.bool false),.v 9 (.int .i64 0)]) (fun p5=>[(0,.bool false),(1,pT (p2 1).N 0),(2,pT (p3 5).N 0),(3,.int .i64 0),(4,pT (p4 6).N 0),(5,.bool false),(6,.int .i64 0),(7,pT (p5 6).N 0),(8,.bool false),(9,.int .i64 0)]) (fun p5=>?_) (fun p5 W5 T hF hK=>?_)
 ·refine okl ?_
  refine okc (fun W cx=>as_v (unhide H3 _ (ht.kept cx.fr) (htp.kept cx.fr))) ?_
  iterate 4 refine okv ?_
  refine okn ?_
  refine okp ?_
  iterate 2 refine okv ?_
  exact ok_nil
 replace hS:=SymF.fc hS hF [0,1,2,1006] [⟨(p2 1).N,#[.int .i64 5,.int .i64 10],23,true⟩,⟨(p3 5).N,#[.bool false,.string ⟨#[57,57,57,55,53,53,56,53,57,51,55,53]⟩,.int .i64 (-13)],35,true⟩,⟨(p4 6).N,#[.bool false,.string ⟨#[49]⟩,.int .i64 (-1)],35,true⟩,⟨(p5 6).N,#[.bool true,.string ⟨#[49]⟩,.int .i64 (-3)],35,true⟩]
 replace hG:=hF.gx
 clear hF
 refine wq hS hG hK (fun p6=>[.l 33 (.agg #[.int .i64 5,.int .i64 10]) 0 0,.c (some 34) (cV (.tuple #[.int .i64 5,.int .i64 0])),.v 32 (.tuple #[.int .i64 5,.int .i64 0]),.v 35 (.int .i64 5),.v 36 (.int .i64 0),.v 10 (.int .i64 5),.v 11 (.int .i64 0)]) (fun p6=>[(0,.bool false),(1,pT (p2 1).N 0),(2,pT (p3 5).N 0),(3,.int .i64 0),(4,pT (p4 6).N 0),(5,.bool false),(6,.int .i64 0),(7,pT (p5 6).N 0),(8,.bool false),(9,.int .i64 0),(10,.int .i64 5),(11,.int .i64 0)]) (fun p6=>?_) (fun p6 W6 T hF hK=>?_)
 ·refine okl ?_
  refine okc (fun W cx=>as_v (unhide H4 _)) ?_
  iterate 5 refine okv ?_
  exact ok_nil
 obtain ⟨hS,hG⟩:=SymF.fg hS hF
 clear hF
 refine wq hS hG hK (fun p7=>[.l 38 (.agg #[.int .i64 5,.int .i64 10]) 0 0,.c (some 39) (cV (.tuple #[.int .i64 3,.int .i64 0])),.v 37 (.tuple #[.int .i64 3,.int .i64 0]),.v 40 (.int .i64 3),.v 41 (.int .i64 0),.v 12 (.int .i64 3),.v 13 (.int .i64 0)]) (fun p7=>[(0,.bool false),(2,pT (p3 5).N 0),(3,.int .i64 0),(4,pT (p4 6).N 0),(5,.bool false),(6,.int .i64 0),(7,pT (p5 6).N 0),(8,.bool false),(9,.int .i64 0),(10,.int .i64 5),(11,.int .i64 0),(12,.int .i64 3),(13,.int .i64 0)]) (fun p7=>?_) (fun p7 W7 T hF hK=>?_)
 ·refine okl ?_
  refine okc (fun W cx=>as_v (unhide H5 _)) ?_
  iterate 5 refine okv ?_
  exact ok_nil
 replace hS:=SymF.fc hS hF [1,2,3] [⟨(p3 5).N,#[.bool false,.string ⟨#[57,57,57,55,53,53,56,53,57,51,55,53]⟩,.int .i64 (-13)],35,true⟩,⟨(p4 6).N,#[.bool false,.string ⟨#[49]⟩,.int .i64 (-1)],35,true⟩,⟨(p5 6).N,#[.bool true,.string ⟨#[49]⟩,.int .i64 (-3)],35,true⟩]
 replace hG:=hF.gx
 clear hF
 refine wq hS hG hK (fun p8=>[.v 42 (.int .i64 0),.v 43 (.bool true),.v 44 (.bool true),.v 45 (.int .i64 0),.v 46 (.bool true),.v 47 (.bool true),.v 48 (.bool true),.v 49 (.int .i64 0),.v 50 (.bool true),.v 51 (.bool true),.v 52 (.bool true),.v 53 (.int .i64 0),.v 54 (.bool true),.v 55 (.bool true),.v 56 (.bool true),.v 57 (.int .i64 0),.v 58 (.bool true),.v 59 (.bool true),.v 60 (.bool true),.l 61 (.agg #[.bool false,.string ⟨#[57,57,57,55,53,53,56,53,57,51,55,53]⟩,.int .i64 (-13)]) 0 0,.v 62 (.agg #[.bool false,.string { data:=#[57,57,57,55,53,53,56,53,57,51,55,53] },.int .i64 (-13)]),.v 63 (.bool true),.v 64 (.bool true),.v 65 (.bool true),.l 66 (.agg #[.bool false,.string ⟨#[49]⟩,.int .i64 (-1)]) 1 0,.v 67 (.agg #[.bool false,.string { data:=#[49] },.int .i64 (-1)]),.v 68 (.bool true),.v 69 (.bool true),.v 70 (.bool true),.v 71 (.bool false),.v 72 (.bool true),.v 73 (.bool true),.v 74 (.bool true),.l 75 (.agg #[.bool true,.string ⟨#[49]⟩,.int .i64 (-3)]) 2 0,.v 76 (.agg #[.bool true,.string { data:=#[49] },.int .i64 (-3)]),.v 77 (.bool true),.v 78 (.bool true),.v 79 (.bool true),.v 80 (.bool false),.v 81 (.bool true),.v 82 (.bool true),.v 83 (.bool true),.v 84 (.int .i64 5),.v 85 (.bool true),.v 86 (.bool true),.v 87 (.bool true),.v 88 (.int .i64 3),.v 89 (.bool true),.v 90 (.bool true),.v 0 (.bool true)]) (fun p8=>[(0,.bool true)]) (fun p8=>?_) (fun p8 W8 T hF hK=>?_)
 ·iterate 19 refine okv ?_
  refine okl ?_
  refine okv ?_
  refine ok_vr (dc_eql (false) (⟨#[57,57,57,55,53,53,56,53,57,51,55,53]⟩) ((-13))) (by kernel_rfl) ?_
  iterate 2 refine okv ?_
  refine okl ?_
  refine okv ?_
  refine ok_vr (dc_eql (false) (⟨#[49]⟩) ((-1))) (by kernel_rfl) ?_
  iterate 6 refine okv ?_
  refine okl ?_
  refine okv ?_
  refine ok_vr (dc_eql (true) (⟨#[49]⟩) ((-3))) (by kernel_rfl) ?_
  iterate 14 refine okv ?_
  exact ok_nil
 replace hS:=SymF.fc hS hF [] []
 replace hG:=hF.gx
 clear hF
 refine wp_ret ?_
 exact sym_end hS hK (.bool true) [] [] (by kernel_rfl) (by kernel_rfl) ⟨rfl,hS.fr⟩
theorem dchf_is (w:World) (E F err:Int) (HV:Hid (∀ W:World,Calls Tryz.prog 8 #[.agg #[.int .i64 E,.int .i64 F],.int .u64 0] W fun e W'=>e = .returned (.tuple #[.agg #[.bool false,.slice none 0 0,.int .i64 0],.int .i64 err])∧Below W.heap.size W W')) :
  Calls Tryz.prog 45 #[.agg #[.int .i64 E,.int .i64 F]] w fun en w'=>en = .returned (.int .i64 err)∧Below w.heap.size w w':=by
 refine calls_sym Tryz.func45 rfl (by kernel_rfl) fun T hK=>?_
 replace hK:Kn T _ [(0,.agg #[.int .i64 E,.int .i64 F])]:=hK
 have hS:=Fb.begin w
 have hG:GsAt [] w:=trivial
 refine wq hS hG hK (fun p1=>[.n 1 #[.int .i64 E,.int .i64 F] 23,.v 2 (.int .i64 0)]) (fun p1=>[(1,pT (p1 0).N 0),(2,.int .i64 0)]) (fun p1=>?_) (fun p1 W1 T hF hK=>?_)
 ·refine okn ?_
  refine okv ?_
  exact ok_nil
 replace hS:=SymF.fc hS hF [1000] [⟨(p1 0).N,#[.int .i64 E,.int .i64 F],23,true⟩]
 replace hG:=hF.gx
 clear hF
 refine wq hS hG hK (fun p2=>[.l 6 (.agg #[.int .i64 E,.int .i64 F]) 0 0,.c (some 7) (cV (.tuple #[.agg #[.bool false,.slice none 0 0,.int .i64 0],.int .i64 err])),.v 5 (.tuple #[.agg #[.bool false,.slice none 0 0,.int .i64 0],.int .i64 err]),.v 8 (.agg #[.bool false,.slice none 0 0,.int .i64 0]),.v 9 (.int .i64 err),.n 3 #[.bool false,.slice none 0 0,.int .i64 0] 30,.p 1005 0 [.bool false,.slice none 0 0,.int .i64 0],.v 4 (.int .i64 err)]) (fun p2=>[(2,.int .i64 0),(4,.int .i64 err)]) (fun p2=>?_) (fun p2 W2 T hF hK=>?_)
 ·refine okl ?_
  refine okc (fun W cx=>as_v (unhide HV _)) ?_
  iterate 3 refine okv ?_
  refine okn ?_
  refine okp ?_
  refine okv ?_
  exact ok_nil
 replace hS:=SymF.fc hS hF [] []
 replace hG:=hF.gx
 clear hF
 refine wq hS hG hK (fun p3=>[.v 10 (.int .i64 err),.v 2 (.int .i64 err)]) (fun p3=>[(2,.int .i64 err)]) (fun p3=>?_) (fun p3 W3 T hF hK=>?_)
 ·iterate 2 refine okv ?_
  exact ok_nil
 obtain ⟨hS,hG⟩:=SymF.fg hS hF
 clear hF
 refine wp_ret ?_
 exact sym_end hS hK (.int .i64 err) [] [] (by kernel_rfl) (by kernel_rfl) ⟨rfl,hS.fr⟩
theorem den_ok (w:World) (E F q tw:Nat) (pw:Nat→Nat) (hF:F≤52) (hp0:pw 0 = 1) (hps:∀ j,j < q→pw (j+1) = pw j * 10) (hpl:∀ j,j < q→pw j≤tw) (hpq:tw < pw q) (htw:tw < 1000000000000000000) (hq:q≤1000) (hsh:IntKind.u64.wrap (1 * 2 ^ min ((F:Int)+1:Int).toNat 64) = (tw:Int)) (HK:Hid (∀ W:World,Calls Tryz.prog 45 #[.agg #[.int .i64 (E:Int),.int .i64 (F:Int)]] W fun e W'=>e = .returned (.int .i64 0)∧Below W.heap.size W W')) :
  Calls Tryz.prog 19 #[.agg #[.int .i64 (E:Int),.int .i64 (F:Int)]] w fun en w'=>en = .returned (.tuple #[.int .i64 (((q - 0:Nat):Int)+1),.int .i64 0])∧Below w.heap.size w w':=by
 obtain ⟨k,hkz⟩:∃ k,k = q:=⟨_,rfl⟩
 have hkn:k≤q:=by omega
 refine calls_sym Tryz.func19 rfl (by kernel_rfl) fun T hK=>?_
 replace hK:Kn T _ [(0,.agg #[.int .i64 (E:Int),.int .i64 (F:Int)])]:=hK
 have hS:=Fb.begin w
 have hG:GsAt [] w:=trivial
 refine wq hS hG hK (fun p1=>[.n 1 #[.int .i64 (E:Int),.int .i64 (F:Int)] 23,.v 2 (.int .i64 0),.v 3 (.int .i64 0)]) (fun p1=>[(1,pT (p1 0).N 0),(2,.int .i64 0),(3,.int .i64 0)]) (fun p1=>?_) (fun p1 W1 T hF hJ=>?_)
 ·refine okn ?_
  iterate 2 refine okv ?_
  exact ok_nil
 replace hS:=SymF.fc hS hF [1000] [⟨(p1 0).N,#[.int .i64 (E:Int),.int .i64 (F:Int)],23,true⟩]
 replace hG:=hF.gx
 clear hF hK
 have hK:=hJ
 clear hJ
 refine wp_seq ?_
 refine wq hS hG hK (fun p2=>[.l 7 (.agg #[.int .i64 (E:Int),.int .i64 (F:Int)]) 0 0,.c (some 8) (cV (.int .i64 0)),.v 4 (.int .i64 0)]) (fun p2=>[(1,pT (p1 0).N 0),(2,.int .i64 0),(3,.int .i64 0),(4,.int .i64 0)]) (fun p2=>?_) (fun p2 W2 T hF hJ=>?_)
 ·refine okl ?_
  refine okc (fun W cx=>as_v (unhide HK _)) ?_
  refine okv ?_
  exact ok_nil
 replace hS:=SymF.fd hS hF
 replace hG:=hF.gx
 clear hF hK
 have hK:=hJ
 clear hJ
 refine wq hS hG hK (fun p3=>[.v 9 (.int .i64 0),.v 10 (.bool false)]) (fun p3=>[(1,pT (p1 0).N 0),(2,.int .i64 0),(3,.int .i64 0),(4,.int .i64 0),(10,.bool false)]) (fun p3=>?_) (fun p3 W3 T hF hJ=>?_)
 ·iterate 2 refine okv ?_
  exact ok_nil
 replace hS:=SymF.fd hS hF
 replace hG:=hF.gx
 clear hF hK
 have hK:=hJ
 clear hJ
 refine wp_cond_false (hK.ew 10) (wp_skip (then_n ?_))
 refine wq hS hG hK (fun p4=>[.v 5 (.int .i64 1)]) (fun p4=>[(1,pT (p1 0).N 0),(2,.int .i64 0),(3,.int .i64 0),(4,.int .i64 0),(5,.int .i64 1),(10,.bool false)]) (fun p4=>?_) (fun p4 W4 T hF hJ=>?_)
 ·refine okv ?_
  exact ok_nil
 replace hS:=SymF.fd hS hF
 replace hG:=hF.gx
 clear hF hK
 have hK:=hJ
 clear hJ
 refine wp_seq ?_
 refine wq hS hG hK (fun p5=>[.v 6 (.int .u64 1)]) (fun p5=>[(1,pT (p1 0).N 0),(2,.int .i64 0),(3,.int .i64 0),(4,.int .i64 0),(5,.int .i64 1),(6,.int .u64 1),(10,.bool false)]) (fun p5=>?_) (fun p5 W5 T hF hJ=>?_)
 ·refine okv ?_
  exact ok_nil
 replace hS:=SymF.fd hS hF
 replace hG:=hF.gx
 clear hF hK
 have hK:=hJ
 clear hJ
 have z5:=hS.fr.size
 refine wp_block ?_
 replace hK:Kn T _ [(1,pT (p1 0).N 0),(5,.int .i64 1),(6,.int .u64 1)]:=kn_out (ds:=[]) hK rfl rfl _ (by kernel_rfl) (by kernel_rfl)
 have h5:Value.int .i64 1 = .int .i64 (((q - k:Nat):Int)+1):=by rw [hkz,Nat.sub_self]; rfl
 have h6:Value.int .u64 1 = .int .u64 ((pw (q - k):Nat):Int):=by rw [hkz,Nat.sub_self,hp0]; rfl
 rw [h5,h6] at hK
 clear h5 h6 hkz
 refine wp_loop_rounds (k+1) ?_
 clear z5
 induction k generalizing T W5 with
 | succ k ih=>
  have z5:=hS.fr.size
  have hj:=hps (q - (k+1)) (by omega)
  have hj1:q - (k+1)+1 = q - k:=by omega
  rw [hj1] at hj
  have hb1:=hpl (q - (k+1)) (by omega)
  refine rounds_s (wp_seq ?_)
  refine wq hS hG hK (fun p6=>[.v 12 (.int .u64 ((pw (q - (k+1)):Nat):Int)),.v 13 (pT (p1 0).N 1),.l 14 (.int .i64 (F:Int)) 0 1,.v 15 (.int .i64 ((F:Int)+1)),.v 16 (.int .u64 (tw:Int)),.v 17 (.bool true)]) (fun p6=>[(1,pT (p1 0).N 0),(5,.int .i64 (((q - (k+1):Nat):Int)+1)),(6,.int .u64 ((pw (q - (k+1)):Nat):Int)),(17,.bool true)]) (fun p6=>?_) (fun p6 W6 T hF hJ=>?_)
  ·iterate 2 refine okv ?_
   refine okl ?_
   refine okvi (wr64 (x:=(F:Int)+1) (by omega) (by omega)) ?_
   refine okvi (hsh) ?_
   refine okvb (decide_eq_true (show ((pw (q - (k+1)):Nat):Int)≤(tw:Int) by omega)) ?_
   exact ok_nil
  replace hS:=SymF.fc hS hF [0] [⟨(p1 0).N,#[.int .i64 (E:Int),.int .i64 (F:Int)],23,true⟩]
  replace hG:=hF.gx
  clear hF hK
  have hK:=hJ
  clear hJ
  refine wp_cond_true (hK.ew 17) (wp_skip ?_)
  refine then_n (wp_seq (wp_block ?_))
  refine wg hS hG hK (fun p7=>[.v 20 (.int .i64 (((q - (k+1):Nat):Int)+1)),.v 21 (.int .i64 (((q - k:Nat):Int)+1)),.v 5 (.int .i64 (((q - k:Nat):Int)+1))]) (fun p7=>[(1,pT (p1 0).N 0),(5,.int .i64 (((q - k:Nat):Int)+1)),(6,.int .u64 ((pw (q - (k+1)):Nat):Int)),(17,.bool true)]) (fun p7=>?_) (fun p7 W7 T hF hJ=>?_)
  ·refine okv ?_
   refine okvi ((wr64 (x:=(((q - (k+1):Nat):Int)+1)+1) (by omega) (by omega)).trans (by omega)) ?_
   refine okv ?_
   exact ok_nil
  replace hS:=SymF.fd hS hF
  replace hG:=hF.gx
  clear hF hK
  have hK:=hJ
  clear hJ
  refine inb_n (then_n ?_)
  refine wg hS hG hK (fun p8=>[.v 18 (.int .u64 ((pw (q - (k+1)):Nat):Int)),.v 19 (.int .u64 ((pw (q - k):Nat):Int)),.v 6 (.int .u64 ((pw (q - k):Nat):Int))]) (fun p8=>[(1,pT (p1 0).N 0),(5,.int .i64 (((q - k:Nat):Int)+1)),(6,.int .u64 ((pw (q - k):Nat):Int)),(17,.bool true)]) (fun p8=>?_) (fun p8 W8 T hF hJ=>?_)
  ·refine okv ?_
   refine okvi ((show IntKind.u64.wrap (((pw (q - (k+1)):Nat):Int) * 10) = ((pw (q - (k+1)):Nat):Int) * 10 by rw [IntKind.wrap_u64]; omega).trans (by omega)) ?_
   refine okv ?_
   exact ok_nil
  replace hS:=SymF.fd hS hF
  replace hG:=hF.gx
  clear hF hK
  have hK:=hJ
  clear hJ
  refine then_n ?_
  replace hK:Kn T _ [(1,pT (p1 0).N 0),(5,.int .i64 (((q - k:Nat):Int)+1)),(6,.int .u64 ((pw (q - k):Nat):Int))]:=kn_out (ds:=[]) hK rfl rfl _ (by kernel_rfl) (by kernel_rfl)
  refine ih ?_ _ _ ?_ ?_ ?_ <;> first|assumption|omega
 | zero=>
  have z5:=hS.fr.size
  have hz0:q - 0 = q:=by omega
  rw [← hz0] at hpq
  refine rounds_s (wp_seq ?_)
  refine wq hS hG hK (fun p9=>[.v 12 (.int .u64 ((pw (q - 0):Nat):Int)),.v 13 (pT (p1 0).N 1),.l 14 (.int .i64 (F:Int)) 0 1,.v 15 (.int .i64 ((F:Int)+1)),.v 16 (.int .u64 (tw:Int)),.v 17 (.bool false)]) (fun p9=>[(1,pT (p1 0).N 0),(5,.int .i64 (((q - 0:Nat):Int)+1)),(6,.int .u64 ((pw (q - 0):Nat):Int)),(17,.bool false)]) (fun p9=>?_) (fun p9 W9 T hF hJ=>?_)
  ·iterate 2 refine okv ?_
   refine okl ?_
   refine okvi (wr64 (x:=(F:Int)+1) (by omega) (by omega)) ?_
   refine okvi (hsh) ?_
   refine okvb (decide_eq_false (show ¬ ((pw (q - 0):Nat):Int)≤(tw:Int) by omega)) ?_
   exact ok_nil
  replace hS:=SymF.fc hS hF [0] [⟨(p1 0).N,#[.int .i64 (E:Int),.int .i64 (F:Int)],23,true⟩]
  replace hG:=hF.gx
  clear hF hK
  have hK:=hJ
  clear hJ
  refine wp_cond_false (hK.ew 17) (wp_exit ?_)
  refine then_x (then_x ?_)
  refine inb_x (then_n ?_)
  refine wq hS hG hK (fun p10=>[.v 22 (.int .i64 (((q - 0:Nat):Int)+1)),.v 2 (.int .i64 (((q - 0:Nat):Int)+1)),.v 3 (.int .i64 0)]) (fun p10=>[(2,.int .i64 (((q - 0:Nat):Int)+1)),(3,.int .i64 0),(5,.int .i64 (((q - 0:Nat):Int)+1)),(6,.int .u64 ((pw (q - 0):Nat):Int)),(17,.bool false)]) (fun p10=>?_) (fun p10 W10 T hF hJ=>?_)
  ·iterate 3 refine okv ?_
   exact ok_nil
  replace hS:=SymF.fc hS hF [] []
  replace hG:=hF.gx
  clear hF hK
  have hK:=hJ
  clear hJ
  refine wp_ret ?_
  exact sym_end hS hK (.tuple #[.int .i64 (((q - 0:Nat):Int)+1),.int .i64 0]) [] [] (by kernel_rfl) (by kernel_rfl) ⟨rfl,hS.fr⟩
theorem dsu_e (w:World) (E F err:Int) (he:err≠0) (HK:Hid (∀ W:World,Calls Tryz.prog 45 #[.agg #[.int .i64 E,.int .i64 F]] W fun e W'=>e = .returned (.int .i64 err)∧Below W.heap.size W W')) :
  Calls Tryz.prog 22 #[.agg #[.int .i64 E,.int .i64 F]] w fun en w'=>en = .returned (.tuple #[.int .i64 0,.int .i64 err])∧Below w.heap.size w w':=by
 refine calls_sym Tryz.func22 rfl (by kernel_rfl) fun T hK=>?_
 replace hK:Kn T _ [(0,.agg #[.int .i64 E,.int .i64 F])]:=hK
 have hS:=Fb.begin w
 have hG:GsAt [] w:=trivial
 refine wq hS hG hK (fun p1=>[.n 1 #[.int .i64 E,.int .i64 F] 23,.v 2 (.int .i64 0),.v 3 (.int .i64 0)]) (fun p1=>[(1,pT (p1 0).N 0),(2,.int .i64 0),(3,.int .i64 0)]) (fun p1=>?_) (fun p1 W1 T hF hK=>?_)
 ·refine okn ?_
  iterate 2 refine okv ?_
  exact ok_nil
 replace hS:=SymF.fc hS hF [1000] [⟨(p1 0).N,#[.int .i64 E,.int .i64 F],23,true⟩]
 replace hG:=hF.gx
 clear hF
 refine wp_seq ?_
 refine wq hS hG hK (fun p2=>[.l 7 (.agg #[.int .i64 E,.int .i64 F]) 0 0,.c (some 8) (cV (.int .i64 err)),.v 4 (.int .i64 err)]) (fun p2=>[(1,pT (p1 0).N 0),(2,.int .i64 0),(3,.int .i64 0),(4,.int .i64 err)]) (fun p2=>?_) (fun p2 W2 T hF hK=>?_)
 ·refine okl ?_
  refine okc (fun W cx=>as_v (unhide HK _)) ?_
  refine okv ?_
  exact ok_nil
 obtain ⟨hS,hG⟩:=SymF.fg hS hF
 clear hF
 refine wq hS hG hK (fun p3=>[.v 9 (.int .i64 err),.v 10 (.bool true)]) (fun p3=>[(1,pT (p1 0).N 0),(2,.int .i64 0),(3,.int .i64 0),(4,.int .i64 err),(10,.bool true)]) (fun p3=>?_) (fun p3 W3 T hF hK=>?_)
 ·refine okv ?_
  refine okvb (bne_iff_ne.2 (show err≠0 by omega)) ?_
  exact ok_nil
 obtain ⟨hS,hG⟩:=SymF.fg hS hF
 clear hF
 refine wp_cond_true (hK.ew 10) ?_
 refine wq hS hG hK (fun p4=>[.v 11 (.int .i64 err),.v 2 (.int .i64 0),.v 3 (.int .i64 err)]) (fun p4=>[(1,pT (p1 0).N 0),(2,.int .i64 0),(3,.int .i64 err),(10,.bool true)]) (fun p4=>?_) (fun p4 W4 T hF hK=>?_)
 ·iterate 3 refine okv ?_
  exact ok_nil
 obtain ⟨hS,hG⟩:=SymF.fg hS hF
 clear hF
 refine wp_ret ?_
 refine then_r ?_
 exact sym_end hS hK (.tuple #[.int .i64 0,.int .i64 err]) [] [] (by kernel_rfl) (by kernel_rfl) ⟨rfl,hS.fr⟩
theorem dsu_ok (w:World) (E F q tw:Nat) (pw:Nat→Nat) (hp0:pw 0 = 10) (hps:∀ j,j < q→pw (j+1) = pw j * 10) (hpl:∀ j,j < q→pw j < tw) (hpq:tw≤pw q) (htw:tw < 1000000000000000000) (hq:q≤1000) (hsh:IntKind.u64.wrap (1 * 2 ^ min ((F:Int):Int).toNat 64) = (tw:Int)) (HK:Hid (∀ W:World,Calls Tryz.prog 45 #[.agg #[.int .i64 (E:Int),.int .i64 (F:Int)]] W fun e W'=>e = .returned (.int .i64 0)∧Below W.heap.size W W')) :
  Calls Tryz.prog 22 #[.agg #[.int .i64 (E:Int),.int .i64 (F:Int)]] w fun en w'=>en = .returned (.tuple #[.int .i64 ((q - 0:Nat):Int),.int .i64 0])∧Below w.heap.size w w':=by
 obtain ⟨k,hkz⟩:∃ k,k = q:=⟨_,rfl⟩
 have hkn:k≤q:=by omega
 refine calls_sym Tryz.func22 rfl (by kernel_rfl) fun T hK=>?_
 replace hK:Kn T _ [(0,.agg #[.int .i64 (E:Int),.int .i64 (F:Int)])]:=hK
 have hS:=Fb.begin w
 have hG:GsAt [] w:=trivial
 refine wq hS hG hK (fun p1=>[.n 1 #[.int .i64 (E:Int),.int .i64 (F:Int)] 23,.v 2 (.int .i64 0),.v 3 (.int .i64 0)]) (fun p1=>[(1,pT (p1 0).N 0),(2,.int .i64 0),(3,.int .i64 0)]) (fun p1=>?_) (fun p1 W1 T hF hJ=>?_)
 ·refine okn ?_
  iterate 2 refine okv ?_
  exact ok_nil
 replace hS:=SymF.fc hS hF [1000] [⟨(p1 0).N,#[.int .i64 (E:Int),.int .i64 (F:Int)],23,true⟩]
 replace hG:=hF.gx
 clear hF hK
 have hK:=hJ
 clear hJ
 refine wp_seq ?_
 refine wq hS hG hK (fun p2=>[.l 7 (.agg #[.int .i64 (E:Int),.int .i64 (F:Int)]) 0 0,.c (some 8) (cV (.int .i64 0)),.v 4 (.int .i64 0)]) (fun p2=>[(1,pT (p1 0).N 0),(2,.int .i64 0),(3,.int .i64 0),(4,.int .i64 0)]) (fun p2=>?_) (fun p2 W2 T hF hJ=>?_)
 ·refine okl ?_
  refine okc (fun W cx=>as_v (unhide HK _)) ?_
  refine okv ?_
  exact ok_nil
 replace hS:=SymF.fd hS hF
 replace hG:=hF.gx
 clear hF hK
 have hK:=hJ
 clear hJ
 refine wq hS hG hK (fun p3=>[.v 9 (.int .i64 0),.v 10 (.bool false)]) (fun p3=>[(1,pT (p1 0).N 0),(2,.int .i64 0),(3,.int .i64 0),(4,.int .i64 0),(10,.bool false)]) (fun p3=>?_) (fun p3 W3 T hF hJ=>?_)
 ·iterate 2 refine okv ?_
  exact ok_nil
 replace hS:=SymF.fd hS hF
 replace hG:=hF.gx
 clear hF hK
 have hK:=hJ
 clear hJ
 refine wp_cond_false (hK.ew 10) (wp_skip (then_n ?_))
 refine wq hS hG hK (fun p4=>[.v 5 (.int .i64 0)]) (fun p4=>[(1,pT (p1 0).N 0),(2,.int .i64 0),(3,.int .i64 0),(4,.int .i64 0),(5,.int .i64 0),(10,.bool false)]) (fun p4=>?_) (fun p4 W4 T hF hJ=>?_)
 ·refine okv ?_
  exact ok_nil
 replace hS:=SymF.fd hS hF
 replace hG:=hF.gx
 clear hF hK
 have hK:=hJ
 clear hJ
 refine wp_seq ?_
 refine wq hS hG hK (fun p5=>[.v 6 (.int .u64 10)]) (fun p5=>[(1,pT (p1 0).N 0),(2,.int .i64 0),(3,.int .i64 0),(4,.int .i64 0),(5,.int .i64 0),(6,.int .u64 10),(10,.bool false)]) (fun p5=>?_) (fun p5 W5 T hF hJ=>?_)
 ·refine okv ?_
  exact ok_nil
 replace hS:=SymF.fd hS hF
 replace hG:=hF.gx
 clear hF hK
 have hK:=hJ
 clear hJ
 have z5:=hS.fr.size
 refine wp_block ?_
 replace hK:Kn T _ [(1,pT (p1 0).N 0),(5,.int .i64 0),(6,.int .u64 10)]:=kn_out (ds:=[]) hK rfl rfl _ (by kernel_rfl) (by kernel_rfl)
 have h5:Value.int .i64 0 = .int .i64 ((q - k:Nat):Int):=by rw [hkz,Nat.sub_self]; rfl
 have h6:Value.int .u64 10 = .int .u64 ((pw (q - k):Nat):Int):=by rw [hkz,Nat.sub_self,hp0]; rfl
 rw [h5,h6] at hK
 clear h5 h6 hkz
 refine wp_loop_rounds (k+1) ?_
 clear z5
 induction k generalizing T W5 with
 | succ k ih=>
  have z5:=hS.fr.size
  have hj:=hps (q - (k+1)) (by omega)
  have hj1:q - (k+1)+1 = q - k:=by omega
  rw [hj1] at hj
  have hb1:=hpl (q - (k+1)) (by omega)
  refine rounds_s (wp_seq ?_)
  refine wq hS hG hK (fun p6=>[.v 12 (.int .u64 ((pw (q - (k+1)):Nat):Int)),.v 13 (pT (p1 0).N 1),.l 14 (.int .i64 (F:Int)) 0 1,.v 15 (.int .u64 (tw:Int)),.v 16 (.bool true)]) (fun p6=>[(1,pT (p1 0).N 0),(5,.int .i64 ((q - (k+1):Nat):Int)),(6,.int .u64 ((pw (q - (k+1)):Nat):Int)),(16,.bool true)]) (fun p6=>?_) (fun p6 W6 T hF hJ=>?_)
  ·iterate 2 refine okv ?_
   refine okl ?_
   refine okvi (hsh) ?_
   refine okvb (decide_eq_true (show ((pw (q - (k+1)):Nat):Int) < (tw:Int) by omega)) ?_
   exact ok_nil
  replace hS:=SymF.fc hS hF [0] [⟨(p1 0).N,#[.int .i64 (E:Int),.int .i64 (F:Int)],23,true⟩]
  replace hG:=hF.gx
  clear hF hK
  have hK:=hJ
  clear hJ
  refine wp_cond_true (hK.ew 16) (wp_skip ?_)
  refine then_n (wp_seq (wp_block ?_))
  refine wg hS hG hK (fun p7=>[.v 19 (.int .i64 ((q - (k+1):Nat):Int)),.v 20 (.int .i64 ((q - k:Nat):Int)),.v 5 (.int .i64 ((q - k:Nat):Int))]) (fun p7=>[(1,pT (p1 0).N 0),(5,.int .i64 ((q - k:Nat):Int)),(6,.int .u64 ((pw (q - (k+1)):Nat):Int)),(16,.bool true)]) (fun p7=>?_) (fun p7 W7 T hF hJ=>?_)
  ·refine okv ?_
   refine okvi ((wr64 (x:=((q - (k+1):Nat):Int)+1) (by omega) (by omega)).trans (by omega)) ?_
   refine okv ?_
   exact ok_nil
  replace hS:=SymF.fd hS hF
  replace hG:=hF.gx
  clear hF hK
  have hK:=hJ
  clear hJ
  refine inb_n (then_n ?_)
  refine wg hS hG hK (fun p8=>[.v 17 (.int .u64 ((pw (q - (k+1)):Nat):Int)),.v 18 (.int .u64 ((pw (q - k):Nat):Int)),.v 6 (.int .u64 ((pw (q - k):Nat):Int))]) (fun p8=>[(1,pT (p1 0).N 0),(5,.int .i64 ((q - k:Nat):Int)),(6,.int .u64 ((pw (q - k):Nat):Int)),(16,.bool true)]) (fun p8=>?_) (fun p8 W8 T hF hJ=>?_)
  ·refine okv ?_
   refine okvi ((show IntKind.u64.wrap (((pw (q - (k+1)):Nat):Int) * 10) = ((pw (q - (k+1)):Nat):Int) * 10 by rw [IntKind.wrap_u64]; omega).trans (by omega)) ?_
   refine okv ?_
   exact ok_nil
  replace hS:=SymF.fd hS hF
  replace hG:=hF.gx
  clear hF hK
  have hK:=hJ
  clear hJ
  refine then_n ?_
  replace hK:Kn T _ [(1,pT (p1 0).N 0),(5,.int .i64 ((q - k:Nat):Int)),(6,.int .u64 ((pw (q - k):Nat):Int))]:=kn_out (ds:=[]) hK rfl rfl _ (by kernel_rfl) (by kernel_rfl)
  refine ih ?_ _ _ ?_ ?_ ?_ <;> first|assumption|omega
 | zero=>
  have z5:=hS.fr.size
  have hz0:q - 0 = q:=by omega
  rw [← hz0] at hpq
  refine rounds_s (wp_seq ?_)
  refine wq hS hG hK (fun p9=>[.v 12 (.int .u64 ((pw (q - 0):Nat):Int)),.v 13 (pT (p1 0).N 1),.l 14 (.int .i64 (F:Int)) 0 1,.v 15 (.int .u64 (tw:Int)),.v 16 (.bool false)]) (fun p9=>[(1,pT (p1 0).N 0),(5,.int .i64 ((q - 0:Nat):Int)),(6,.int .u64 ((pw (q - 0):Nat):Int)),(16,.bool false)]) (fun p9=>?_) (fun p9 W9 T hF hJ=>?_)
  ·iterate 2 refine okv ?_
   refine okl ?_
   refine okvi (hsh) ?_
   refine okvb (decide_eq_false (show ¬ ((pw (q - 0):Nat):Int) < (tw:Int) by omega)) ?_
   exact ok_nil
  replace hS:=SymF.fc hS hF [0] [⟨(p1 0).N,#[.int .i64 (E:Int),.int .i64 (F:Int)],23,true⟩]
  replace hG:=hF.gx
  clear hF hK
  have hK:=hJ
  clear hJ
  refine wp_cond_false (hK.ew 16) (wp_exit ?_)
  refine then_x (then_x ?_)
  refine inb_x (then_n ?_)
  refine wq hS hG hK (fun p10=>[.v 21 (.int .i64 ((q - 0:Nat):Int)),.v 2 (.int .i64 ((q - 0:Nat):Int)),.v 3 (.int .i64 0)]) (fun p10=>[(2,.int .i64 ((q - 0:Nat):Int)),(3,.int .i64 0),(5,.int .i64 ((q - 0:Nat):Int)),(6,.int .u64 ((pw (q - 0):Nat):Int)),(16,.bool false)]) (fun p10=>?_) (fun p10 W10 T hF hJ=>?_)
  ·iterate 3 refine okv ?_
   exact ok_nil
  replace hS:=SymF.fc hS hF [] []
  replace hG:=hF.gx
  clear hF hK
  have hK:=hJ
  clear hJ
  refine wp_ret ?_
  exact sym_end hS hK (.tuple #[.int .i64 ((q - 0:Nat):Int),.int .i64 0]) [] [] (by kernel_rfl) (by kernel_rfl) ⟨rfl,hS.fr⟩
theorem dback_is (w:World) (E F rb fl:Int) (va da:Nat) (sa g:Bool) (s3:ByteArray) (x3:Int) (ht:Tb w) (HQ:Hid (∀ W:World,Calls Tryz.prog 12 #[.agg #[.bool g,.string s3,.int .i64 x3]] W fun e W'=>(∃ A N C A' N' C',e = .returned (.tuple #[.agg #[.bool sa,.slice A N C,.slice A' N' C'],.int .i64 0])∧Mine W' W.heap.size A N C va∧Mine W' W.heap.size A' N' C' da)∧Below W.heap.size W W')) (HR:Hid (∀ (W:World) (a:Option Addr) (n c:Nat) (b:Option Addr) (k l:Nat),Tb W→Num W a n va→Num W b k da→Calls Tryz.prog 50 #[.agg #[.int .i64 E,.int .i64 F],.agg #[.bool sa,.slice a n c,.slice b k l],.bool g,.int .u8 0] W fun e W'=>e = .returned (.tuple #[.int .u64 rb,.int .u8 fl,.int .i64 0])∧Below W.heap.size W W')) :
  Calls Tryz.prog 21 #[.agg #[.int .i64 E,.int .i64 F],.agg #[.bool g,.string s3,.int .i64 x3]] w fun en w'=>en = .returned (.tuple #[.int .u64 rb,.bool true])∧Below w.heap.size w w':=by
 refine calls_sym Tryz.func21 rfl (by kernel_rfl) fun T hK=>?_
 replace hK:Kn T _ [(0,.agg #[.int .i64 E,.int .i64 F]),(1,.agg #[.bool g,.string s3,.int .i64 x3])]:=hK
 have hS:=Fb.begin w
 have hG:GsAt [] w:=trivial
 refine wq hS hG hK (fun p1=>[.n 2 #[.int .i64 E,.int .i64 F] 23,.n 3 #[.bool g,.string s3,.int .i64 x3] 35,.v 4 (.int .u64 0),.v 5 (.bool false)]) (fun p1=>[(2,pT (p1 0).N 0),(3,pT (p1 1).N 0),(4,.int .u64 0),(5,.bool false)]) (fun p1=>?_) (fun p1 W1 T hF hK=>?_)
 ·iterate 2 refine okn ?_
  iterate 2 refine okv ?_
  exact ok_nil
 replace hS:=SymF.fc hS hF [1000,1001] [⟨(p1 0).N,#[.int .i64 E,.int .i64 F],23,true⟩,⟨(p1 1).N,#[.bool g,.string s3,.int .i64 x3],35,true⟩]
 replace hG:=hF.gx
 clear hF
 refine wq hS hG hK (fun p2=>[.l 12 (.agg #[.bool g,.string s3,.int .i64 x3]) 1 0,.c (some 13) (cH W1.heap.size va da fun x9 y9=>.tuple #[.agg #[.bool sa,x9,y9],.int .i64 0]),.v 11 (.tuple #[.agg #[.bool sa,.slice (p2 1).A (p2 1).N (p2 1).C,.slice (p2 1).A' (p2 1).N' (p2 1).C'],.int .i64 0]),.v 14 (.agg #[.bool sa,.slice (p2 1).A (p2 1).N (p2 1).C,.slice (p2 1).A' (p2 1).N' (p2 1).C']),.v 15 (.int .i64 0),.n 6 #[.bool false,.slice none 0 0,.slice none 0 0] 41,.p 1005 0 [.bool sa,.slice (p2 1).A (p2 1).N (p2 1).C,.slice (p2 1).A' (p2 1).N' (p2 1).C'],.v 7 (.int .i64 0)]) (fun p2=>[(2,pT (p1 0).N 0),(3,pT (p1 1).N 0),(4,.int .u64 0),(5,.bool false),(6,pT (p2 5).N 0),(7,.int .i64 0)]) (fun p2=>?_) (fun p2 W2 T hF hK=>?_)
 ·refine okl ?_
  refine okc (fun W cx=>as_h cx.hb (unhide HQ _)) ?_
  iterate 3 refine okv ?_
  refine okn ?_
  refine okp ?_
  refine okv ?_
  exact ok_nil
 replace hS:=SymF.fc hS hF [0,1,1005] [⟨(p1 0).N,#[.int .i64 E,.int .i64 F],23,true⟩,⟨(p1 1).N,#[.bool g,.string s3,.int .i64 x3],35,true⟩,⟨(p2 5).N,#[.bool sa,.slice (p2 1).A (p2 1).N (p2 1).C,.slice (p2 1).A' (p2 1).N' (p2 1).C'],41,true⟩]
 replace hG:GsAt (gM W1.heap.size (p2 1).A (p2 1).N (p2 1).C va :: gM W1.heap.size (p2 1).A' (p2 1).N' (p2 1).C' da :: _) W2:=⟨And.left (hF.fx 1),And.right (hF.fx 1),hF.gx⟩
 clear hF
 refine wq hS hG hK (fun p3=>[.l 17 (.agg #[.int .i64 E,.int .i64 F]) 0 0,.l 18 (.agg #[.bool sa,.slice (p2 1).A (p2 1).N (p2 1).C,.slice (p2 1).A' (p2 1).N' (p2 1).C']) 2 0,.v 19 (pT (p1 1).N 0),.l 20 (.bool g) 1 0,.c (some 21) (cV (.tuple #[.int .u64 rb,.int .u8 fl,.int .i64 0])),.v 16 (.tuple #[.int .u64 rb,.int .u8 fl,.int .i64 0]),.v 22 (.int .u64 rb),.v 23 (.int .u8 fl),.v 24 (.int .i64 0),.v 8 (.int .u64 rb),.v 9 (.int .u8 fl),.v 10 (.int .i64 0)]) (fun p3=>[(4,.int .u64 0),(5,.bool false),(7,.int .i64 0),(8,.int .u64 rb),(10,.int .i64 0)]) (fun p3=>?_) (fun p3 W3 T hF hK=>?_)
 ·iterate 2 refine okl ?_
  refine okv ?_
  refine okl ?_
  refine okc (fun W cx=>as_v (unhide HR _ _ _ (p2 1).C _ _ (p2 1).C' (ht.kept cx.fr) (Mine.num cx.G.1) (Mine.num cx.G.2.1))) ?_
  iterate 7 refine okv ?_
  exact ok_nil
 replace hS:=SymF.fc hS hF [] []
 replace hG:=hF.gx
 clear hF
 refine wq hS hG hK (fun p4=>[.v 25 (.int .u64 rb),.v 26 (.int .i64 0),.v 27 (.bool true),.v 28 (.bool true),.v 29 (.int .i64 0),.v 30 (.bool true),.v 31 (.bool true),.v 4 (.int .u64 rb),.v 5 (.bool true)]) (fun p4=>[(4,.int .u64 rb),(5,.bool true)]) (fun p4=>?_) (fun p4 W4 T hF hK=>?_)
 ·iterate 9 refine okv ?_
  exact ok_nil
 obtain ⟨hS,hG⟩:=SymF.fg hS hF
 clear hF
 refine wp_ret ?_
 exact sym_end hS hK (.tuple #[.int .u64 rb,.bool true]) [] [] (by kernel_rfl) (by kernel_rfl) ⟨rfl,hS.fr⟩
theorem dwith_is (w:World) (E F pl pg m1 m2 va1 da1 va2 da2 vr dr:Nat) (x1 x2 c1 c2 x3:Int) (g b1 b2:Bool) (s3:ByteArray) (h1:decide (c1≤0) = b1) (h2:decide (c2≤0) = b2) (ht:Tb w) (HN:Hid (∀ W:World,Calls Tryz.prog 52 #[.agg #[.int .i64 (E:Int),.int .i64 (F:Int)],.bool false] W fun e W'=>e = .returned (.tuple #[.int .u64 (pl:Int),.int .i64 0])∧Below W.heap.size W W')) (HG:Hid (∀ W:World,Calls Tryz.prog 53 #[.agg #[.int .i64 (E:Int),.int .i64 (F:Int)],.bool false] W fun e W'=>e = .returned (.tuple #[.int .u64 (pg:Int),.int .i64 0])∧Below W.heap.size W W')) (HV1:Hid (Vals E F (pl:Int) false m1 x1)) (HV2:Hid (Vals E F (pg:Int) false m2 x2)) (HR1:Hid (∀ (W:World) (A:Option Addr) (N C:Nat),Num W A N m1→Calls Tryz.prog 11 #[.agg #[.bool false,.slice A N C,.int .i64 x1]] W fun e W'=>(∃ A N C A' N' C',e = .returned (.tuple #[.agg #[.bool false,.slice A N C,.slice A' N' C'],.int .i64 0])∧Mine W' W.heap.size A N C va1∧Mine W' W.heap.size A' N' C' da1)∧Below W.heap.size W W')) (HR2:Hid (∀ (W:World) (A:Option Addr) (N C:Nat),Num W A N m2→Calls Tryz.prog 11 #[.agg #[.bool false,.slice A N C,.int .i64 x2]] W fun e W'=>(∃ A N C A' N' C',e = .returned (.tuple #[.agg #[.bool false,.slice A N C,.slice A' N' C'],.int .i64 0])∧Mine W' W.heap.size A N C va2∧Mine W' W.heap.size A' N' C' da2)∧Below W.heap.size W W')) (HQ:Hid (∀ W:World,Calls Tryz.prog 12 #[.agg #[.bool false,.string s3,.int .i64 x3]] W fun e W'=>(∃ A N C A' N' C',e = .returned (.tuple #[.agg #[.bool false,.slice A N C,.slice A' N' C'],.int .i64 0])∧Mine W' W.heap.size A N C vr∧Mine W' W.heap.size A' N' C' dr)∧Below W.heap.size W W')) (HC1:Hid (∀ (W:World) (a:Option Addr) (n c:Nat) (b:Option Addr) (k l:Nat) (a':Option Addr) (n' c':Nat) (b':Option Addr) (k' l':Nat),Num W a n va1→Num W b k da1→Num W a' n' vr→Num W b' k' dr→Calls Tryz.prog 54 #[.agg #[.bool false,.slice a n c,.slice b k l],.agg #[.bool false,.slice a' n' c',.slice b' k' l']] W fun e W'=>e = .returned (.tuple #[.int .i64 c1,.int .i64 0])∧Below W.heap.size W W')) (HC2:Hid (∀ (W:World) (a:Option Addr) (n c:Nat) (b:Option Addr) (k l:Nat) (a':Option Addr) (n' c':Nat) (b':Option Addr) (k' l':Nat),Num W a n vr→Num W b k dr→Num W a' n' va2→Num W b' k' da2→Calls Tryz.prog 54 #[.agg #[.bool false,.slice a n c,.slice b k l],.agg #[.bool false,.slice a' n' c',.slice b' k' l']] W fun e W'=>e = .returned (.tuple #[.int .i64 c2,.int .i64 0])∧Below W.heap.size W W')) :
  Calls Tryz.prog 24 #[.agg #[.int .i64 (E:Int),.int .i64 (F:Int)],.agg #[.bool g,.string s3,.int .i64 x3]] w fun en w'=>en = .returned (.tuple #[.bool (b1 && b2),.bool true])∧Below w.heap.size w w':=by
 refine calls_sym Tryz.func24 rfl (by kernel_rfl) fun T hK=>?_
 replace hK:Kn T _ [(0,.agg #[.int .i64 (E:Int),.int .i64 (F:Int)]),(1,.agg #[.bool g,.string s3,.int .i64 x3])]:=hK
 have hS:=Fb.begin w
 have hG:GsAt [] w:=trivial
 refine wq hS hG hK (fun p1=>[.n 2 #[.int .i64 (E:Int),.int .i64 (F:Int)] 23,.n 3 #[.bool g,.string s3,.int .i64 x3] 35,.v 4 (.bool false),.v 5 (.bool false)]) (fun p1=>[(2,pT (p1 0).N 0),(3,pT (p1 1).N 0),(4,.bool false),(5,.bool false)]) (fun p1=>?_) (fun p1 W1 T hF hJ=>?_)
 ·iterate 2 refine okn ?_
  iterate 2 refine okv ?_
  exact ok_nil
 replace hS:=SymF.fc hS hF [1000,1001] [⟨(p1 0).N,#[.int .i64 (E:Int),.int .i64 (F:Int)],23,true⟩,⟨(p1 1).N,#[.bool g,.string s3,.int .i64 x3],35,true⟩]
 replace hG:=hF.gx
 clear hF hK
 have hK:=hJ
 clear hJ
 refine wq hS hG hK (fun p2=>[.l 26 (.agg #[.int .i64 (E:Int),.int .i64 (F:Int)]) 0 0,.c (some 27) (cV (.tuple #[.int .u64 (pl:Int),.int .i64 0])),.v 25 (.tuple #[.int .u64 (pl:Int),.int .i64 0]),.v 28 (.int .u64 (pl:Int)),.v 29 (.int .i64 0),.v 6 (.int .u64 (pl:Int)),.v 7 (.int .i64 0)]) (fun p2=>[(2,pT (p1 0).N 0),(3,pT (p1 1).N 0),(4,.bool false),(5,.bool false),(6,.int .u64 (pl:Int)),(7,.int .i64 0)]) (fun p2=>?_) (fun p2 W2 T hF hJ=>?_)
 ·refine okl ?_
  refine okc (fun W cx=>as_v (unhide HN _)) ?_
  iterate 5 refine okv ?_
  exact ok_nil
 replace hS:=SymF.fd hS hF
 replace hG:=hF.gx
 clear hF hK
 have hK:=hJ
 clear hJ
 refine wq hS hG hK (fun p3=>[.l 31 (.agg #[.int .i64 (E:Int),.int .i64 (F:Int)]) 0 0,.c (some 32) (cV (.tuple #[.int .u64 (pg:Int),.int .i64 0])),.v 30 (.tuple #[.int .u64 (pg:Int),.int .i64 0]),.v 33 (.int .u64 (pg:Int)),.v 34 (.int .i64 0),.v 8 (.int .u64 (pg:Int)),.v 9 (.int .i64 0)]) (fun p3=>[(2,pT (p1 0).N 0),(3,pT (p1 1).N 0),(4,.bool false),(5,.bool false),(6,.int .u64 (pl:Int)),(7,.int .i64 0),(8,.int .u64 (pg:Int)),(9,.int .i64 0)]) (fun p3=>?_) (fun p3 W3 T hF hJ=>?_)
 ·refine okl ?_
  refine okc (fun W cx=>as_v (unhide HG _)) ?_
  iterate 5 refine okv ?_
  exact ok_nil
 replace hS:=SymF.fd hS hF
 replace hG:=hF.gx
 clear hF hK
 have hK:=hJ
 clear hJ
 refine wq hS hG hK (fun p4=>[.l 36 (.agg #[.int .i64 (E:Int),.int .i64 (F:Int)]) 0 0,.v 37 (.int .u64 (pl:Int)),.c (some 38) (cG W3.heap.size m1 fun x9=>.tuple #[.agg #[.bool false,x9,.int .i64 x1],.int .i64 0]),.v 35 (.tuple #[.agg #[.bool false,.slice (p4 2).A (p4 2).N (p4 2).C,.int .i64 x1],.int .i64 0]),.v 39 (.agg #[.bool false,.slice (p4 2).A (p4 2).N (p4 2).C,.int .i64 x1]),.v 40 (.int .i64 0),.n 10 #[.bool false,.slice none 0 0,.int .i64 0] 30,.p 1006 0 [.bool false,.slice (p4 2).A (p4 2).N (p4 2).C,.int .i64 x1],.v 11 (.int .i64 0)]) (fun p4=>[(2,pT (p1 0).N 0),(3,pT (p1 1).N 0),(4,.bool false),(5,.bool false),(7,.int .i64 0),(8,.int .u64 (pg:Int)),(9,.int .i64 0),(10,pT (p4 6).N 0),(11,.int .i64 0)]) (fun p4=>?_) (fun p4 W4 T hF hJ=>?_)
 ·refine okl ?_
  refine okv ?_
  refine okc (fun W cx=>as_g cx.hb (unhide HV1 _ (ht.kept cx.fr))) ?_
  iterate 3 refine okv ?_
  refine okn ?_
  refine okp ?_
  refine okv ?_
  exact ok_nil
 replace hS:=SymF.fc hS hF [0,1,1006] [⟨(p1 0).N,#[.int .i64 (E:Int),.int .i64 (F:Int)],23,true⟩,⟨(p1 1).N,#[.bool g,.string s3,.int .i64 x3],35,true⟩,⟨(p4 6).N,#[.bool false,.slice (p4 2).A (p4 2).N (p4 2).C,.int .i64 x1],30,true⟩]
 replace hG:GsAt (gM W3.heap.size (p4 2).A (p4 2).N (p4 2).C m1 :: _) W4:=⟨hF.fx 2,hF.gx⟩
 clear hF hK
 have hK:=hJ
 clear hJ
 refine wq hS hG hK (fun p5=>[.l 42 (.agg #[.int .i64 (E:Int),.int .i64 (F:Int)]) 0 0,.v 43 (.int .u64 (pg:Int)),.c (some 44) (cG W4.heap.size m2 fun x9=>.tuple #[.agg #[.bool false,x9,.int .i64 x2],.int .i64 0]),.v 41 (.tuple #[.agg #[.bool false,.slice (p5 2).A (p5 2).N (p5 2).C,.int .i64 x2],.int .i64 0]),.v 45 (.agg #[.bool false,.slice (p5 2).A (p5 2).N (p5 2).C,.int .i64 x2]),.v 46 (.int .i64 0),.n 12 #[.bool false,.slice none 0 0,.int .i64 0] 30,.p 1006 0 [.bool false,.slice (p5 2).A (p5 2).N (p5 2).C,.int .i64 x2],.v 13 (.int .i64 0)]) (fun p5=>[(3,pT (p1 1).N 0),(4,.bool false),(5,.bool false),(7,.int .i64 0),(9,.int .i64 0),(10,pT (p4 6).N 0),(11,.int .i64 0),(12,pT (p5 6).N 0),(13,.int .i64 0)]) (fun p5=>?_) (fun p5 W5 T hF hJ=>?_)
 ·refine okl ?_
  refine okv ?_
  refine okc (fun W cx=>as_g cx.hb (unhide HV2 _ (ht.kept cx.fr))) ?_
  iterate 3 refine okv ?_
  refine okn ?_
  refine okp ?_
  refine okv ?_
  exact ok_nil
 replace hS:=SymF.fc hS hF [1,2,1006] [⟨(p1 1).N,#[.bool g,.string s3,.int .i64 x3],35,true⟩,⟨(p4 6).N,#[.bool false,.slice (p4 2).A (p4 2).N (p4 2).C,.int .i64 x1],30,true⟩,⟨(p5 6).N,#[.bool false,.slice (p5 2).A (p5 2).N (p5 2).C,.int .i64 x2],30,true⟩]
 replace hG:GsAt (gM W4.heap.size (p5 2).A (p5 2).N (p5 2).C m2 :: _) W5:=⟨hF.fx 2,hF.gx⟩
 clear hF hK
 have hK:=hJ
 clear hJ
 refine wq hS hG hK (fun p6=>[.l 48 (.agg #[.bool false,.slice (p4 2).A (p4 2).N (p4 2).C,.int .i64 x1]) 1 0,.c (some 49) (cH W5.heap.size va1 da1 fun x9 y9=>.tuple #[.agg #[.bool false,x9,y9],.int .i64 0]),.v 47 (.tuple #[.agg #[.bool false,.slice (p6 1).A (p6 1).N (p6 1).C,.slice (p6 1).A' (p6 1).N' (p6 1).C'],.int .i64 0]),.v 50 (.agg #[.bool false,.slice (p6 1).A (p6 1).N (p6 1).C,.slice (p6 1).A' (p6 1).N' (p6 1).C']),.v 51 (.int .i64 0),.n 14 #[.bool false,.slice none 0 0,.slice none 0 0] 41,.p 1005 0 [.bool false,.slice (p6 1).A (p6 1).N (p6 1).C,.slice (p6 1).A' (p6 1).N' (p6 1).C'],.v 15 (.int .i64 0)]) (fun p6=>[(3,pT (p1 1).N 0),(4,.bool false),(5,.bool false),(7,.int .i64 0),(9,.int .i64 0),(11,.int .i64 0),(12,pT (p5 6).N 0),(13,.int .i64 0),(14,pT (p6 5).N 0),(15,.int .i64 0)]) (fun p6=>?_) (fun p6 W6 T hF hJ=>?_)
 ·refine okl ?_
  refine okc (fun W cx=>as_h cx.hb (unhide HR1 _ _ _ (p4 2).C (Mine.num cx.G.2.1))) ?_
  iterate 3 refine okv ?_
  refine okn ?_
  refine okp ?_
  refine okv ?_
  exact ok_nil
 replace hS:=SymF.fc hS hF [0,2,1005] [⟨(p1 1).N,#[.bool g,.string s3,.int .i64 x3],35,true⟩,⟨(p5 6).N,#[.bool false,.slice (p5 2).A (p5 2).N (p5 2).C,.int .i64 x2],30,true⟩,⟨(p6 5).N,#[.bool false,.slice (p6 1).A (p6 1).N (p6 1).C,.slice (p6 1).A' (p6 1).N' (p6 1).C'],41,true⟩]
 replace hG:GsAt (gM W5.heap.size (p6 1).A (p6 1).N (p6 1).C va1 :: gM W5.heap.size (p6 1).A' (p6 1).N' (p6 1).C' da1 :: _) W6:=⟨And.left (hF.fx 1),And.right (hF.fx 1),hF.gx⟩
 clear hF hK
 have hK:=hJ
 clear hJ
 refine wq hS hG hK (fun p7=>[.l 53 (.agg #[.bool false,.slice (p5 2).A (p5 2).N (p5 2).C,.int .i64 x2]) 1 0,.c (some 54) (cH W6.heap.size va2 da2 fun x9 y9=>.tuple #[.agg #[.bool false,x9,y9],.int .i64 0]),.v 52 (.tuple #[.agg #[.bool false,.slice (p7 1).A (p7 1).N (p7 1).C,.slice (p7 1).A' (p7 1).N' (p7 1).C'],.int .i64 0]),.v 55 (.agg #[.bool false,.slice (p7 1).A (p7 1).N (p7 1).C,.slice (p7 1).A' (p7 1).N' (p7 1).C']),.v 56 (.int .i64 0),.n 16 #[.bool false,.slice none 0 0,.slice none 0 0] 41,.p 1005 0 [.bool false,.slice (p7 1).A (p7 1).N (p7 1).C,.slice (p7 1).A' (p7 1).N' (p7 1).C'],.v 17 (.int .i64 0)]) (fun p7=>[(3,pT (p1 1).N 0),(4,.bool false),(5,.bool false),(7,.int .i64 0),(9,.int .i64 0),(11,.int .i64 0),(13,.int .i64 0),(14,pT (p6 5).N 0),(15,.int .i64 0),(16,pT (p7 5).N 0),(17,.int .i64 0)]) (fun p7=>?_) (fun p7 W7 T hF hJ=>?_)
 ·refine okl ?_
  refine okc (fun W cx=>as_h cx.hb (unhide HR2 _ _ _ (p5 2).C (Mine.num cx.G.2.2.1))) ?_
  iterate 3 refine okv ?_
  refine okn ?_
  refine okp ?_
  refine okv ?_
  exact ok_nil
 replace hS:=SymF.fc hS hF [0,2,1005] [⟨(p1 1).N,#[.bool g,.string s3,.int .i64 x3],35,true⟩,⟨(p6 5).N,#[.bool false,.slice (p6 1).A (p6 1).N (p6 1).C,.slice (p6 1).A' (p6 1).N' (p6 1).C'],41,true⟩,⟨(p7 5).N,#[.bool false,.slice (p7 1).A (p7 1).N (p7 1).C,.slice (p7 1).A' (p7 1).N' (p7 1).C'],41,true⟩]
 replace hG:GsAt (gM W6.heap.size (p7 1).A (p7 1).N (p7 1).C va2 :: gM W6.heap.size (p7 1).A' (p7 1).N' (p7 1).C' da2 :: _) W7:=⟨And.left (hF.fx 1),And.right (hF.fx 1),hF.gx⟩
 clear hF hK
 have hK:=hJ
 clear hJ
 refine wq hS hG hK (fun p8=>[.v 57 (pT (p1 1).N 0),.p 0 0 [.bool false]]) (fun p8=>[(3,pT (p1 1).N 0),(4,.bool false),(5,.bool false),(7,.int .i64 0),(9,.int .i64 0),(11,.int .i64 0),(13,.int .i64 0),(14,pT (p6 5).N 0),(15,.int .i64 0),(16,pT (p7 5).N 0),(17,.int .i64 0)]) (fun p8=>?_) (fun p8 W8 T hF hJ=>?_)
 ·refine okv ?_
  refine okp ?_
  exact ok_nil
 replace hS:=SymF.fc hS hF [0,1,2] [⟨(p1 1).N,#[.bool false,.string s3,.int .i64 x3],35,true⟩,⟨(p6 5).N,#[.bool false,.slice (p6 1).A (p6 1).N (p6 1).C,.slice (p6 1).A' (p6 1).N' (p6 1).C'],41,true⟩,⟨(p7 5).N,#[.bool false,.slice (p7 1).A (p7 1).N (p7 1).C,.slice (p7 1).A' (p7 1).N' (p7 1).C'],41,true⟩]
 replace hG:=hF.gx
 clear hF hK
 have hK:=hJ
 clear hJ
 refine wq hS hG hK (fun p9=>[.l 59 (.agg #[.bool false,.string s3,.int .i64 x3]) 0 0,.c (some 60) (cH W8.heap.size vr dr fun x9 y9=>.tuple #[.agg #[.bool false,x9,y9],.int .i64 0]),.v 58 (.tuple #[.agg #[.bool false,.slice (p9 1).A (p9 1).N (p9 1).C,.slice (p9 1).A' (p9 1).N' (p9 1).C'],.int .i64 0]),.v 61 (.agg #[.bool false,.slice (p9 1).A (p9 1).N (p9 1).C,.slice (p9 1).A' (p9 1).N' (p9 1).C']),.v 62 (.int .i64 0),.n 18 #[.bool false,.slice none 0 0,.slice none 0 0] 41,.p 1005 0 [.bool false,.slice (p9 1).A (p9 1).N (p9 1).C,.slice (p9 1).A' (p9 1).N' (p9 1).C'],.v 19 (.int .i64 0)]) (fun p9=>[(4,.bool false),(5,.bool false),(7,.int .i64 0),(9,.int .i64 0),(11,.int .i64 0),(13,.int .i64 0),(14,pT (p6 5).N 0),(15,.int .i64 0),(16,pT (p7 5).N 0),(17,.int .i64 0),(18,pT (p9 5).N 0),(19,.int .i64 0)]) (fun p9=>?_) (fun p9 W9 T hF hJ=>?_)
 ·refine okl ?_
  refine okc (fun W cx=>as_h cx.hb (unhide HQ _)) ?_
  iterate 3 refine okv ?_
  refine okn ?_
  refine okp ?_
  refine okv ?_
  exact ok_nil
 replace hS:=SymF.fc hS hF [1,2,1005] [⟨(p6 5).N,#[.bool false,.slice (p6 1).A (p6 1).N (p6 1).C,.slice (p6 1).A' (p6 1).N' (p6 1).C'],41,true⟩,⟨(p7 5).N,#[.bool false,.slice (p7 1).A (p7 1).N (p7 1).C,.slice (p7 1).A' (p7 1).N' (p7 1).C'],41,true⟩,⟨(p9 5).N,#[.bool false,.slice (p9 1).A (p9 1).N (p9 1).C,.slice (p9 1).A' (p9 1).N' (p9 1).C'],41,true⟩]
 replace hG:GsAt (gM W8.heap.size (p9 1).A (p9 1).N (p9 1).C vr :: gM W8.heap.size (p9 1).A' (p9 1).N' (p9 1).C' dr :: _) W9:=⟨And.left (hF.fx 1),And.right (hF.fx 1),hF.gx⟩
 clear hF hK
 have hK:=hJ
 clear hJ
 refine wq hS hG hK (fun p10=>[.l 64 (.agg #[.bool false,.slice (p6 1).A (p6 1).N (p6 1).C,.slice (p6 1).A' (p6 1).N' (p6 1).C']) 0 0,.l 65 (.agg #[.bool false,.slice (p9 1).A (p9 1).N (p9 1).C,.slice (p9 1).A' (p9 1).N' (p9 1).C']) 2 0,.c (some 66) (cV (.tuple #[.int .i64 c1,.int .i64 0])),.v 63 (.tuple #[.int .i64 c1,.int .i64 0]),.v 67 (.int .i64 c1),.v 68 (.int .i64 0),.v 20 (.int .i64 c1),.v 21 (.int .i64 0)]) (fun p10=>[(4,.bool false),(5,.bool false),(7,.int .i64 0),(9,.int .i64 0),(11,.int .i64 0),(13,.int .i64 0),(15,.int .i64 0),(16,pT (p7 5).N 0),(17,.int .i64 0),(18,pT (p9 5).N 0),(19,.int .i64 0),(20,.int .i64 c1),(21,.int .i64 0)]) (fun p10=>?_) (fun p10 W10 T hF hJ=>?_)
 ·iterate 2 refine okl ?_
  refine okc (fun W cx=>as_v (unhide HC1 _ _ _ (p6 1).C _ _ (p6 1).C' _ _ (p9 1).C _ _ (p9 1).C' (Mine.num cx.G.2.2.2.2.1) (Mine.num cx.G.2.2.2.2.2.1) (Mine.num cx.G.1) (Mine.num cx.G.2.1))) ?_
  iterate 5 refine okv ?_
  exact ok_nil
 replace hS:=SymF.fc hS hF [1,2] [⟨(p7 5).N,#[.bool false,.slice (p7 1).A (p7 1).N (p7 1).C,.slice (p7 1).A' (p7 1).N' (p7 1).C'],41,true⟩,⟨(p9 5).N,#[.bool false,.slice (p9 1).A (p9 1).N (p9 1).C,.slice (p9 1).A' (p9 1).N' (p9 1).C'],41,true⟩]
 replace hG:=hF.gx
 clear hF hK
 have hK:=hJ
 clear hJ
 refine wq hS hG hK (fun p11=>[.l 70 (.agg #[.bool false,.slice (p9 1).A (p9 1).N (p9 1).C,.slice (p9 1).A' (p9 1).N' (p9 1).C']) 1 0,.l 71 (.agg #[.bool false,.slice (p7 1).A (p7 1).N (p7 1).C,.slice (p7 1).A' (p7 1).N' (p7 1).C']) 0 0,.c (some 72) (cV (.tuple #[.int .i64 c2,.int .i64 0])),.v 69 (.tuple #[.int .i64 c2,.int .i64 0]),.v 73 (.int .i64 c2),.v 74 (.int .i64 0),.v 22 (.int .i64 c2),.v 23 (.int .i64 0)]) (fun p11=>[(4,.bool false),(5,.bool false),(7,.int .i64 0),(9,.int .i64 0),(11,.int .i64 0),(13,.int .i64 0),(15,.int .i64 0),(17,.int .i64 0),(19,.int .i64 0),(20,.int .i64 c1),(21,.int .i64 0),(22,.int .i64 c2),(23,.int .i64 0)]) (fun p11=>?_) (fun p11 W11 T hF hJ=>?_)
 ·iterate 2 refine okl ?_
  refine okc (fun W cx=>as_v (unhide HC2 _ _ _ (p9 1).C _ _ (p9 1).C' _ _ (p7 1).C _ _ (p7 1).C' (Mine.num cx.G.1) (Mine.num cx.G.2.1) (Mine.num cx.G.2.2.1) (Mine.num cx.G.2.2.2.1))) ?_
  iterate 5 refine okv ?_
  exact ok_nil
 replace hS:=SymF.fc hS hF [] []
 replace hG:=hF.gx
 clear hF hK
 have hK:=hJ
 clear hJ
 refine wq hS hG hK (fun p12=>[.v 75 (.int .i64 0),.v 76 (.bool true),.v 77 (.bool true),.v 78 (.int .i64 0),.v 79 (.bool true),.v 80 (.bool true),.v 81 (.bool true),.v 82 (.int .i64 0),.v 83 (.bool true),.v 84 (.bool true),.v 85 (.bool true),.v 86 (.int .i64 0),.v 87 (.bool true),.v 88 (.bool true),.v 89 (.bool true),.v 90 (.int .i64 0),.v 91 (.bool true),.v 92 (.bool true),.v 93 (.bool true),.v 94 (.int .i64 0),.v 95 (.bool true),.v 96 (.bool true),.v 97 (.bool true),.v 98 (.int .i64 0),.v 99 (.bool true),.v 100 (.bool true),.v 101 (.bool true),.v 102 (.int .i64 0),.v 103 (.bool true),.v 104 (.bool true),.v 105 (.bool true),.v 106 (.int .i64 0),.v 107 (.bool true),.v 108 (.bool true),.v 24 (.bool true)]) (fun p12=>[(4,.bool false),(5,.bool false),(20,.int .i64 c1),(22,.int .i64 c2),(24,.bool true)]) (fun p12=>?_) (fun p12 W12 T hF hJ=>?_)
 ·iterate 35 refine okv ?_
  exact ok_nil
 replace hS:=SymF.fd hS hF
 replace hG:=hF.gx
 clear hF hK
 have hK:=hJ
 clear hJ
 refine wp_seq ?_
 refine wp_join hS hG hK [] [(4,.bool (b1 && b2)),(5,.bool true)] ?_ (fun T W14 hS9 hG9 hJ=>?_)
 ·cases b1
  ·refine wg hS hG hK (fun p13=>[.v 109 (.int .i64 c1),.v 110 (.bool false),.v 111 (.bool false),.k (some 112),.k (some 113),.v 114 (.bool false),.v 115 (.bool true),.v 4 (.bool false),.v 5 (.bool true)]) (fun p13=>[(4,.bool false),(5,.bool true)]) (fun p13=>?_) (fun p13 W13 T hF hJ=>?_)
   ·refine okv ?_
    refine okvb (h1) ?_
    refine okv ?_
    iterate 2 refine okk ?_
    iterate 4 refine okv ?_
    exact ok_nil
   replace hS:=SymF.fc hS hF [] []
   replace hG:=hF.gx
   clear hF hK
   have hK:=hJ
   clear hJ
   have z13:=hS.fr.size
   exact join_end hS hG (kn_out (ds:=[]) hK rfl rfl _ (by kernel_rfl) (by kernel_rfl))
  ·refine wg hS hG hK (fun p13=>[.v 109 (.int .i64 c1),.v 110 (.bool true),.v 111 (.bool true),.v 112 (.int .i64 c2),.v 113 (.bool b2),.v 114 (.bool b2),.v 115 (.bool true),.v 4 (.bool b2),.v 5 (.bool true)]) (fun p13=>[(4,.bool b2),(5,.bool true)]) (fun p13=>?_) (fun p13 W13 T hF hJ=>?_)
   ·refine okv ?_
    refine okvb (h1) ?_
    iterate 2 refine okv ?_
    refine okvb (h2) ?_
    iterate 4 refine okv ?_
    exact ok_nil
   replace hS:=SymF.fc hS hF [] []
   replace hG:=hF.gx
   clear hF hK
   have hK:=hJ
   clear hJ
   have z13:=hS.fr.size
   exact join_end hS hG (kn_out (ds:=[]) hK rfl rfl _ (by kernel_rfl) (by kernel_rfl))
 clear hS hG hK
 have hS:=hS9
 have hG:=hG9
 have hK:=hJ
 clear hS9 hG9 hJ
 refine then_n ?_
 refine wp_ret ?_
 exact sym_end hS hK (.tuple #[.bool (b1 && b2),.bool true]) [] [] (by kernel_rfl) (by kernel_rfl) ⟨rfl,hS.fr⟩
theorem dsul_1 (w:World) (E F ex err:Int) (nm:Nat) (neg:Bool) (he:err≠0) (ht:Tb w) (htp:Tpw w) (HL:Hid (∀ W:World,Tb W→Tpw W→Calls Tryz.prog 7 #[] W fun e W'=>e = .returned (.bool true)∧Below W.heap.size W W')) (HS:Hid (∀ W:World,Calls Tryz.prog 22 #[.agg #[.int .i64 E,.int .i64 F]] W fun e W'=>e = .returned (.tuple #[.int .i64 0,.int .i64 err])∧Below W.heap.size W W')) :
  Calls Tryz.prog 6 #[.agg #[.int .i64 E,.int .i64 F],.bool neg,.int .u64 (nm:Int),.int .i64 ex] w fun en w'=>en = .returned (.bool true)∧Below w.heap.size w w':=by
 refine calls_sym Tryz.func6 rfl (by kernel_rfl) fun T hK=>?_
 replace hK:Kn T _ [(0,.agg #[.int .i64 E,.int .i64 F]),(1,.bool neg),(2,.int .u64 (nm:Int)),(3,.int .i64 ex)]:=hK
 have hS:=Fb.begin w
 have hG:GsAt [] w:=trivial
 refine wq hS hG hK (fun p1=>[.n 4 #[.int .i64 E,.int .i64 F] 23,.v 8 (.bool false)]) (fun p1=>[(1,.bool neg),(2,.int .u64 (nm:Int)),(3,.int .i64 ex),(4,pT (p1 0).N 0),(8,.bool false)]) (fun p1=>?_) (fun p1 W1 T hF hK=>?_)
 ·refine okn ?_
  refine okv ?_
  exact ok_nil
 replace hS:=SymF.fc hS hF [1000] [⟨(p1 0).N,#[.int .i64 E,.int .i64 F],23,true⟩]
 replace hG:=hF.gx
 clear hF
 refine wq hS hG hK (fun p2=>[.c (some 23) (cV (.bool true)),.v 9 (.bool true)]) (fun p2=>[(1,.bool neg),(2,.int .u64 (nm:Int)),(3,.int .i64 ex),(4,pT (p1 0).N 0),(8,.bool false),(9,.bool true)]) (fun p2=>?_) (fun p2 W2 T hF hK=>?_)
 ·refine okc (fun W cx=>as_v (unhide HL _ (ht.kept cx.fr) (htp.kept cx.fr))) ?_
  refine okv ?_
  exact ok_nil
 obtain ⟨hS,hG⟩:=SymF.fg hS hF
 clear hF
 refine wq hS hG hK (fun p3=>[.l 25 (.agg #[.int .i64 E,.int .i64 F]) 0 0,.c (some 26) (cV (.tuple #[.int .i64 0,.int .i64 err])),.v 24 (.tuple #[.int .i64 0,.int .i64 err]),.v 27 (.int .i64 0),.v 28 (.int .i64 err),.v 10 (.int .i64 0),.v 11 (.int .i64 err)]) (fun p3=>[(1,.bool neg),(2,.int .u64 (nm:Int)),(3,.int .i64 ex),(4,pT (p1 0).N 0),(8,.bool false),(9,.bool true),(10,.int .i64 0),(11,.int .i64 err)]) (fun p3=>?_) (fun p3 W3 T hF hK=>?_)
 ·refine okl ?_
  refine okc (fun W cx=>as_v (unhide HS _)) ?_
  iterate 5 refine okv ?_
  exact ok_nil
 obtain ⟨hS,hG⟩:=SymF.fg hS hF
 clear hF
 refine wp_seq ?_
 refine wq hS hG hK (fun p4=>[.v 29 (.int .i64 err),.v 30 (.bool true),.v 31 (.bool true),.k (some 32),.k (some 33),.v 34 (.bool true)]) (fun p4=>[(1,.bool neg),(2,.int .u64 (nm:Int)),(3,.int .i64 ex),(4,pT (p1 0).N 0),(8,.bool false),(9,.bool true),(10,.int .i64 0),(34,.bool true)]) (fun p4=>?_) (fun p4 W4 T hF hK=>?_)
 ·refine okv ?_
  refine okvb (bne_iff_ne.2 (show err≠0 by omega)) ?_
  refine okv ?_
  iterate 2 refine okk ?_
  refine okv ?_
  exact ok_nil
 obtain ⟨hS,hG⟩:=SymF.fg hS hF
 clear hF
 refine wp_cond_true (hK.ew 34) ?_
 refine wq hS hG hK (fun p5=>[.v 35 (.bool true),.v 8 (.bool true)]) (fun p5=>[(1,.bool neg),(2,.int .u64 (nm:Int)),(3,.int .i64 ex),(4,pT (p1 0).N 0),(8,.bool true),(9,.bool true),(10,.int .i64 0),(34,.bool true)]) (fun p5=>?_) (fun p5 W5 T hF hK=>?_)
 ·iterate 2 refine okv ?_
  exact ok_nil
 obtain ⟨hS,hG⟩:=SymF.fg hS hF
 clear hF
 refine wp_ret ?_
 refine then_r ?_
 exact sym_end hS hK (.bool true) [] [] (by kernel_rfl) (by kernel_rfl) ⟨rfl,hS.fr⟩
theorem dsul_2 (w:World) (E F ex:Int) (nm:Nat) (neg:Bool) (ht:Tb w) (htp:Tpw w) (HL:Hid (∀ W:World,Tb W→Tpw W→Calls Tryz.prog 7 #[] W fun e W'=>e = .returned (.bool true)∧Below W.heap.size W W')) (HS:Hid (∀ W:World,Calls Tryz.prog 22 #[.agg #[.int .i64 E,.int .i64 F]] W fun e W'=>e = .returned (.tuple #[.int .i64 0,.int .i64 0])∧Below W.heap.size W W')) :
  Calls Tryz.prog 6 #[.agg #[.int .i64 E,.int .i64 F],.bool neg,.int .u64 (nm:Int),.int .i64 ex] w fun en w'=>en = .returned (.bool true)∧Below w.heap.size w w':=by
 refine calls_sym Tryz.func6 rfl (by kernel_rfl) fun T hK=>?_
 replace hK:Kn T _ [(0,.agg #[.int .i64 E,.int .i64 F]),(1,.bool neg),(2,.int .u64 (nm:Int)),(3,.int .i64 ex)]:=hK
 have hS:=Fb.begin w
 have hG:GsAt [] w:=trivial
 refine wq hS hG hK (fun p1=>[.n 4 #[.int .i64 E,.int .i64 F] 23,.v 8 (.bool false)]) (fun p1=>[(1,.bool neg),(2,.int .u64 (nm:Int)),(3,.int .i64 ex),(4,pT (p1 0).N 0),(8,.bool false)]) (fun p1=>?_) (fun p1 W1 T hF hK=>?_)
 ·refine okn ?_
  refine okv ?_
  exact ok_nil
 replace hS:=SymF.fc hS hF [1000] [⟨(p1 0).N,#[.int .i64 E,.int .i64 F],23,true⟩]
 replace hG:=hF.gx
 clear hF
 refine wq hS hG hK (fun p2=>[.c (some 23) (cV (.bool true)),.v 9 (.bool true)]) (fun p2=>[(1,.bool neg),(2,.int .u64 (nm:Int)),(3,.int .i64 ex),(4,pT (p1 0).N 0),(8,.bool false),(9,.bool true)]) (fun p2=>?_) (fun p2 W2 T hF hK=>?_)
 ·refine okc (fun W cx=>as_v (unhide HL _ (ht.kept cx.fr) (htp.kept cx.fr))) ?_
  refine okv ?_
  exact ok_nil
 obtain ⟨hS,hG⟩:=SymF.fg hS hF
 clear hF
 refine wq hS hG hK (fun p3=>[.l 25 (.agg #[.int .i64 E,.int .i64 F]) 0 0,.c (some 26) (cV (.tuple #[.int .i64 0,.int .i64 0])),.v 24 (.tuple #[.int .i64 0,.int .i64 0]),.v 27 (.int .i64 0),.v 28 (.int .i64 0),.v 10 (.int .i64 0),.v 11 (.int .i64 0)]) (fun p3=>[(1,.bool neg),(2,.int .u64 (nm:Int)),(3,.int .i64 ex),(4,pT (p1 0).N 0),(8,.bool false),(9,.bool true),(10,.int .i64 0),(11,.int .i64 0)]) (fun p3=>?_) (fun p3 W3 T hF hK=>?_)
 ·refine okl ?_
  refine okc (fun W cx=>as_v (unhide HS _)) ?_
  iterate 5 refine okv ?_
  exact ok_nil
 obtain ⟨hS,hG⟩:=SymF.fg hS hF
 clear hF
 refine wp_seq ?_
 refine wq hS hG hK (fun p4=>[.v 29 (.int .i64 0),.v 30 (.bool false),.v 31 (.bool false),.v 32 (.int .i64 0),.v 33 (.bool true),.v 34 (.bool true)]) (fun p4=>[(1,.bool neg),(2,.int .u64 (nm:Int)),(3,.int .i64 ex),(4,pT (p1 0).N 0),(8,.bool false),(9,.bool true),(10,.int .i64 0),(34,.bool true)]) (fun p4=>?_) (fun p4 W4 T hF hK=>?_)
 ·iterate 6 refine okv ?_
  exact ok_nil
 obtain ⟨hS,hG⟩:=SymF.fg hS hF
 clear hF
 refine wp_cond_true (hK.ew 34) ?_
 refine wq hS hG hK (fun p5=>[.v 35 (.bool true),.v 8 (.bool true)]) (fun p5=>[(1,.bool neg),(2,.int .u64 (nm:Int)),(3,.int .i64 ex),(4,pT (p1 0).N 0),(8,.bool true),(9,.bool true),(10,.int .i64 0),(34,.bool true)]) (fun p5=>?_) (fun p5 W5 T hF hK=>?_)
 ·iterate 2 refine okv ?_
  exact ok_nil
 obtain ⟨hS,hG⟩:=SymF.fg hS hF
 clear hF
 refine wp_ret ?_
 refine then_r ?_
 exact sym_end hS hK (.bool true) [] [] (by kernel_rfl) (by kernel_rfl) ⟨rfl,hS.fr⟩
theorem dsul_3 (w:World) (E F ex rb x3:Int) (nm q:Nat) (neg g3 e inn i5:Bool) (tx:Nat→ByteArray) (nv:Nat→Nat) (s3:ByteArray) (hq:1≤q) (hq2:q≤1000) (ht0:tx 0 = ⟨#[]⟩) (hn0:nv 0 = nm) (hnb:∀ j,j < q→nv j < 18446744073709551616) (hns:∀ j,j < q→nv (j+1) = nv j / 10) (hts:∀ j,j < q→tx (j+1) = tx j ++ ⟨#[UInt8.ofNat (48+((nv j % 10:Nat):Int)).toNat]⟩) (htz:∀ j,j < q→(tx j).size = j) (he:(s3.toList == (⟨#[]⟩:ByteArray).toList) = e) (ht:Tb w) (htp:Tpw w) (HL:Hid (∀ W:World,Tb W→Tpw W→Calls Tryz.prog 7 #[] W fun e W'=>e = .returned (.bool true)∧Below W.heap.size W W')) (HS:Hid (∀ W:World,Calls Tryz.prog 22 #[.agg #[.int .i64 E,.int .i64 F]] W fun e W'=>e = .returned (.tuple #[.int .i64 (q:Int),.int .i64 0])∧Below W.heap.size W W')) (HM:Hid (∀ W:World,Calls Tryz.prog 23 #[.bool neg,.string (tx (q - 0)),.int .i64 (Int.tmod ex 400)] W fun e W'=>e = .returned (.tuple #[.agg #[.bool g3,.string s3,.int .i64 x3],.int .i64 0])∧Below W.heap.size W W')) (HI:Hid (e = false→∀ W:World,Tb W→Calls Tryz.prog 24 #[.agg #[.int .i64 E,.int .i64 F],.agg #[.bool g3,.string s3,.int .i64 x3]] W fun e W'=>e = .returned (.tuple #[.bool inn,.bool true])∧Below W.heap.size W W')) (HB:Hid (e = false→inn = true→∀ W:World,Tb W→Calls Tryz.prog 21 #[.agg #[.int .i64 E,.int .i64 F],.agg #[.bool g3,.string s3,.int .i64 x3]] W fun e W'=>e = .returned (.tuple #[.int .u64 rb,.bool true])∧Below W.heap.size W W')) (HO:Hid (e = false→inn = true→∀ W:World,Tb W→Tpw W→Calls Tryz.prog 15 #[.agg #[.int .i64 E,.int .i64 F],.int .u64 rb,.int .i64 (q:Int),.int .u8 0] W fun e W'=>e = .returned (.tuple #[.agg #[.bool g3,.string s3,.int .i64 x3],.bool i5,.int .i64 0])∧Below W.heap.size W W')) :
  Calls Tryz.prog 6 #[.agg #[.int .i64 E,.int .i64 F],.bool neg,.int .u64 (nm:Int),.int .i64 ex] w fun en w'=>en = .returned (.bool true)∧Below w.heap.size w w':=by
 obtain ⟨k,hkz⟩:∃ k,k = q:=⟨_,rfl⟩
 have hkn:k≤q:=by omega
 refine calls_sym Tryz.func6 rfl (by kernel_rfl) fun T hK=>?_
 replace hK:Kn T _ [(0,.agg #[.int .i64 E,.int .i64 F]),(1,.bool neg),(2,.int .u64 (nm:Int)),(3,.int .i64 ex)]:=hK
 have hS:=Fb.begin w
 have hG:GsAt [] w:=trivial
 refine wq hS hG hK (fun p1=>[.n 4 #[.int .i64 E,.int .i64 F] 23,.v 8 (.bool false)]) (fun p1=>[(1,.bool neg),(2,.int .u64 (nm:Int)),(3,.int .i64 ex),(4,pT (p1 0).N 0),(8,.bool false)]) (fun p1=>?_) (fun p1 W1 T hF hJ=>?_)
 ·refine okn ?_
  refine okv ?_
  exact ok_nil
 replace hS:=SymF.fc hS hF [1000] [⟨(p1 0).N,#[.int .i64 E,.int .i64 F],23,true⟩]
 replace hG:=hF.gx
 clear hF hK
 have hK:=hJ
 clear hJ
 refine wq hS hG hK (fun p2=>[.c (some 23) (cV (.bool true)),.v 9 (.bool true)]) (fun p2=>[(1,.bool neg),(2,.int .u64 (nm:Int)),(3,.int .i64 ex),(4,pT (p1 0).N 0),(8,.bool false),(9,.bool true)]) (fun p2=>?_) (fun p2 W2 T hF hJ=>?_)
 ·refine okc (fun W cx=>as_v (unhide HL _ (ht.kept cx.fr) (htp.kept cx.fr))) ?_
  refine okv ?_
  exact ok_nil
 replace hS:=SymF.fd hS hF
 replace hG:=hF.gx
 clear hF hK
 have hK:=hJ
 clear hJ
 refine wq hS hG hK (fun p3=>[.l 25 (.agg #[.int .i64 E,.int .i64 F]) 0 0,.c (some 26) (cV (.tuple #[.int .i64 (q:Int),.int .i64 0])),.v 24 (.tuple #[.int .i64 (q:Int),.int .i64 0]),.v 27 (.int .i64 (q:Int)),.v 28 (.int .i64 0),.v 10 (.int .i64 (q:Int)),.v 11 (.int .i64 0)]) (fun p3=>[(1,.bool neg),(2,.int .u64 (nm:Int)),(3,.int .i64 ex),(4,pT (p1 0).N 0),(8,.bool false),(9,.bool true),(10,.int .i64 (q:Int)),(11,.int .i64 0)]) (fun p3=>?_) (fun p3 W3 T hF hJ=>?_)
 ·refine okl ?_
  refine okc (fun W cx=>as_v (unhide HS _)) ?_
  iterate 5 refine okv ?_
  exact ok_nil
 replace hS:=SymF.fd hS hF
 replace hG:=hF.gx
 clear hF hK
 have hK:=hJ
 clear hJ
 refine wp_seq ?_
 refine wq hS hG hK (fun p4=>[.v 29 (.int .i64 0),.v 30 (.bool false),.v 31 (.bool false),.v 32 (.int .i64 (q:Int)),.v 33 (.bool false),.v 34 (.bool false)]) (fun p4=>[(1,.bool neg),(2,.int .u64 (nm:Int)),(3,.int .i64 ex),(4,pT (p1 0).N 0),(8,.bool false),(9,.bool true),(10,.int .i64 (q:Int)),(34,.bool false)]) (fun p4=>?_) (fun p4 W4 T hF hJ=>?_)
 ·iterate 4 refine okv ?_
  refine okvb (decide_eq_false (show ¬ (q:Int) < 1 by omega)) ?_
  refine okv ?_
  exact ok_nil
 replace hS:=SymF.fd hS hF
 replace hG:=hF.gx
 clear hF hK
 have hK:=hJ
 clear hJ
 refine wp_cond_false (hK.ew 34) (wp_skip (then_n ?_))
 refine wq hS hG hK (fun p5=>[.v 12 (.string { data:=#[] })]) (fun p5=>[(1,.bool neg),(2,.int .u64 (nm:Int)),(3,.int .i64 ex),(4,pT (p1 0).N 0),(8,.bool false),(9,.bool true),(10,.int .i64 (q:Int)),(12,.string { data:=#[] }),(34,.bool false)]) (fun p5=>?_) (fun p5 W5 T hF hJ=>?_)
 ·refine okv ?_
  exact ok_nil
 replace hS:=SymF.fd hS hF
 replace hG:=hF.gx
 clear hF hK
 have hK:=hJ
 clear hJ
 refine wp_seq ?_
 refine wq hS hG hK (fun p6=>[.v 13 (.int .i64 0)]) (fun p6=>[(1,.bool neg),(2,.int .u64 (nm:Int)),(3,.int .i64 ex),(4,pT (p1 0).N 0),(8,.bool false),(9,.bool true),(10,.int .i64 (q:Int)),(12,.string { data:=#[] }),(13,.int .i64 0),(34,.bool false)]) (fun p6=>?_) (fun p6 W6 T hF hJ=>?_)
 ·refine okv ?_
  exact ok_nil
 replace hS:=SymF.fd hS hF
 replace hG:=hF.gx
 clear hF hK
 have hK:=hJ
 clear hJ
 have z6:=hS.fr.size
 refine wp_block ?_
 replace hK:Kn T _ [(1,.bool neg),(2,.int .u64 (nm:Int)),(3,.int .i64 ex),(4,pT (p1 0).N 0),(9,.bool true),(10,.int .i64 (q:Int)),(12,.string { data:=#[] }),(13,.int .i64 0)]:=kn_out (ds:=[]) hK rfl rfl _ (by kernel_rfl) (by kernel_rfl)
 have h13:Value.int .i64 0 = .int .i64 ((q - k:Nat):Int):=by rw [hkz,Nat.sub_self]; rfl
 have h12:Value.string ⟨#[]⟩ = .string (tx (q - k)):=by rw [hkz,Nat.sub_self,ht0]
 have h2:Value.int .u64 (nm:Int) = .int .u64 ((nv (q - k):Nat):Int):=by rw [hkz,Nat.sub_self,hn0]
 rw [h13,h12,h2] at hK
 clear h13 h12 h2 hkz
 refine wp_loop_rounds (k+1) ?_
 clear z6
 induction k generalizing T W6 with
 | succ k ih=>
  have z6:=hS.fr.size
  have hj1:q - (k+1)+1 = q - k:=by omega
  have hj2:=hns (q - (k+1)) (by omega)
  have hj3:=hts (q - (k+1)) (by omega)
  have hj4:=htz (q - (k+1)) (by omega)
  rw [hj1] at hj2 hj3
  have hcat:script Tryz.prog 0 (Op.stringOp .add (tx (q - (k+1))) ⟨#[UInt8.ofNat (48+((nv (q - (k+1)) % 10:Nat):Int)).toNat]⟩) [] = some (.string (tx (q - k)),[]):=by rw [hj3]; exact script_cat (by rw [hj4]; show _+1≤_; omega)
  refine rounds_s (wp_seq ?_)
  refine wq hS hG hK (fun p7=>[.v 36 (.int .i64 ((q - (k+1):Nat):Int)),.v 37 (.int .i64 (q:Int)),.v 38 (.bool true)]) (fun p7=>[(1,.bool neg),(2,.int .u64 ((nv (q - (k+1)):Nat):Int)),(3,.int .i64 ex),(4,pT (p1 0).N 0),(9,.bool true),(10,.int .i64 (q:Int)),(12,.string (tx (q - (k+1)))),(13,.int .i64 ((q - (k+1):Nat):Int)),(38,.bool true)]) (fun p7=>?_) (fun p7 W7 T hF hJ=>?_)
  ·iterate 2 refine okv ?_
   refine okvb (decide_eq_true (show ((q - (k+1):Nat):Int) < (q:Int) by omega)) ?_
   exact ok_nil
  replace hS:=SymF.fc hS hF [0] [⟨(p1 0).N,#[.int .i64 E,.int .i64 F],23,true⟩]
  replace hG:=hF.gx
  clear hF hK
  have hK:=hJ
  clear hJ
  refine wp_cond_true (hK.ew 38) (wp_skip ?_)
  refine then_n (wp_seq (wp_block ?_))
  refine wq hS hG hK (fun p8=>[.v 41 (.string (tx (q - (k+1)))),.v 42 (.int .u64 ((nv (q - (k+1)):Nat):Int)),.v 43 (.int .u64 ((nv (q - (k+1)) % 10:Nat):Int)),.v 44 (.int .u64 (48+((nv (q - (k+1)) % 10:Nat):Int))),.v 45 (.int .u8 (48+((nv (q - (k+1)) % 10:Nat):Int))),.n 46 #[.int .u8 (48+((nv (q - (k+1)) % 10:Nat):Int))] (1000000+5),.g 47 (.string ⟨#[UInt8.ofNat (48+((nv (q - (k+1)) % 10:Nat):Int)).toNat]⟩) [.int .u8 (48+((nv (q - (k+1)) % 10:Nat):Int))] [.ld ⟨(p8 5).N,0,none⟩ (.int .u8 (48+((nv (q - (k+1)) % 10:Nat):Int)))],.v 48 (.string (tx (q - k))),.v 12 (.string (tx (q - k)))]) (fun p8=>[(1,.bool neg),(2,.int .u64 ((nv (q - (k+1)):Nat):Int)),(3,.int .i64 ex),(4,pT (p1 0).N 0),(9,.bool true),(10,.int .i64 (q:Int)),(12,.string (tx (q - k))),(13,.int .i64 ((q - (k+1):Nat):Int)),(38,.bool true)]) (fun p8=>?_) (fun p8 W8 T hF hJ=>?_)
  ·iterate 2 refine okv ?_
   refine okvi (Int.tmod_eq_emod_of_nonneg (a:=((nv (q - (k+1)):Nat):Int)) (b:=10) (Int.natCast_nonneg _)) ?_
   refine okvi (show IntKind.u64.wrap (48+((nv (q - (k+1)) % 10:Nat):Int)) = (48+((nv (q - (k+1)) % 10:Nat):Int)) by rw [IntKind.wrap_u64]; omega) ?_
   refine okvi (show IntKind.u8.wrap (48+((nv (q - (k+1)) % 10:Nat):Int)) = (48+((nv (q - (k+1)) % 10:Nat):Int)) by rw [IntKind.wrap_u8]; omega) ?_
   refine okn ?_
   refine ok_g (fun W cx=>⟨⟨by rw [cell_of_row _ _ 0 _ _ _ (cx.F 5 (by kernel_rfl) (by kernel_rfl))]; rfl,trivial⟩,rfl⟩) (by kernel_rfl) ?_
   refine ok_vr (hcat) (by kernel_rfl) ?_
   refine okv ?_
   exact ok_nil
  replace hS:=SymF.fd hS hF
  replace hG:=hF.gx
  clear hF hK
  have hK:=hJ
  clear hJ
  refine wg hS hG hK (fun p9=>[.v 49 (.int .u64 ((nv (q - (k+1)):Nat):Int)),.v 50 (.int .u64 ((nv (q - k):Nat):Int)),.v 2 (.int .u64 ((nv (q - k):Nat):Int))]) (fun p9=>[(1,.bool neg),(2,.int .u64 ((nv (q - k):Nat):Int)),(3,.int .i64 ex),(4,pT (p1 0).N 0),(9,.bool true),(10,.int .i64 (q:Int)),(12,.string (tx (q - k))),(13,.int .i64 ((q - (k+1):Nat):Int)),(38,.bool true)]) (fun p9=>?_) (fun p9 W9 T hF hJ=>?_)
  ·refine okv ?_
   refine okvi ((show IntKind.u64.wrap (Int.tdiv ((nv (q - (k+1)):Nat):Int) 10) = ((nv (q - k):Nat):Int) by rw [Int.tdiv_eq_ediv_of_nonneg (by omega),IntKind.wrap_u64]; have hb9:=hnb (q - (k+1)) (by omega); omega)) ?_
   refine okv ?_
   exact ok_nil
  replace hS:=SymF.fd hS hF
  replace hG:=hF.gx
  clear hF hK
  have hK:=hJ
  clear hJ
  refine inb_n (then_n ?_)
  refine wg hS hG hK (fun p10=>[.v 39 (.int .i64 ((q - (k+1):Nat):Int)),.v 40 (.int .i64 ((q - k:Nat):Int)),.v 13 (.int .i64 ((q - k:Nat):Int))]) (fun p10=>[(1,.bool neg),(2,.int .u64 ((nv (q - k):Nat):Int)),(3,.int .i64 ex),(4,pT (p1 0).N 0),(9,.bool true),(10,.int .i64 (q:Int)),(12,.string (tx (q - k))),(13,.int .i64 ((q - k:Nat):Int)),(38,.bool true)]) (fun p10=>?_) (fun p10 W10 T hF hJ=>?_)
  ·refine okv ?_
   refine okvi ((wr64 (x:=((q - (k+1):Nat):Int)+1) (by omega) (by omega)).trans (by omega)) ?_
   refine okv ?_
   exact ok_nil
  replace hS:=SymF.fd hS hF
  replace hG:=hF.gx
  clear hF hK
  have hK:=hJ
  clear hJ
  refine then_n ?_
  replace hK:Kn T _ [(1,.bool neg),(2,.int .u64 ((nv (q - k):Nat):Int)),(3,.int .i64 ex),(4,pT (p1 0).N 0),(9,.bool true),(10,.int .i64 (q:Int)),(12,.string (tx (q - k))),(13,.int .i64 ((q - k:Nat):Int))]:=kn_out (ds:=[]) hK rfl rfl _ (by kernel_rfl) (by kernel_rfl)
  refine ih ?_ _ _ ?_ ?_ ?_ <;> first|assumption|omega
 | zero=>
  have z6:=hS.fr.size
  refine rounds_s (wp_seq ?_)
  refine wq hS hG hK (fun p11=>[.v 36 (.int .i64 ((q - 0:Nat):Int)),.v 37 (.int .i64 (q:Int)),.v 38 (.bool false)]) (fun p11=>[(1,.bool neg),(2,.int .u64 ((nv (q - 0):Nat):Int)),(3,.int .i64 ex),(4,pT (p1 0).N 0),(9,.bool true),(10,.int .i64 (q:Int)),(12,.string (tx (q - 0))),(13,.int .i64 ((q - 0:Nat):Int)),(38,.bool false)]) (fun p11=>?_) (fun p11 W11 T hF hJ=>?_)
  ·iterate 2 refine okv ?_
   refine okvb (decide_eq_false (show ¬ ((q - 0:Nat):Int) < (q:Int) by omega)) ?_
   exact ok_nil
  replace hS:=SymF.fc hS hF [0] [⟨(p1 0).N,#[.int .i64 E,.int .i64 F],23,true⟩]
  replace hG:=hF.gx
  clear hF hK
  have hK:=hJ
  clear hJ
  refine wp_cond_false (hK.ew 38) (wp_exit ?_)
  refine then_x (then_x ?_)
  refine inb_x (then_n ?_)
  refine wq hS hG hK (fun p12=>[.v 52 (.bool neg),.v 53 (.string (tx (q - 0))),.v 54 (.int .i64 ex),.v 55 (.int .i64 (Int.tmod ex 400)),.c (some 56) (cV (.tuple #[.agg #[.bool g3,.string s3,.int .i64 x3],.int .i64 0])),.v 51 (.tuple #[.agg #[.bool g3,.string s3,.int .i64 x3],.int .i64 0]),.v 57 (.agg #[.bool g3,.string s3,.int .i64 x3]),.v 58 (.int .i64 0),.n 14 #[.bool false,.string ⟨#[]⟩,.int .i64 0] 35,.p 1008 0 [.bool g3,.string s3,.int .i64 x3],.v 15 (.int .i64 0)]) (fun p12=>[(2,.int .u64 ((nv (q - 0):Nat):Int)),(4,pT (p1 0).N 0),(9,.bool true),(10,.int .i64 (q:Int)),(12,.string (tx (q - 0))),(13,.int .i64 ((q - 0:Nat):Int)),(14,pT (p12 8).N 0),(15,.int .i64 0),(38,.bool false)]) (fun p12=>?_) (fun p12 W12 T hF hJ=>?_)
  ·iterate 4 refine okv ?_
   refine okc (fun W cx=>as_v (unhide HM _)) ?_
   iterate 3 refine okv ?_
   refine okn ?_
   refine okp ?_
   refine okv ?_
   exact ok_nil
  replace hS:=SymF.fc hS hF [0,1008] [⟨(p1 0).N,#[.int .i64 E,.int .i64 F],23,true⟩,⟨(p12 8).N,#[.bool g3,.string s3,.int .i64 x3],35,true⟩]
  replace hG:=hF.gx
  clear hF hK
  have hK:=hJ
  clear hJ
  refine wp_seq ?_
  refine wq hS hG hK (fun p13=>[.v 59 (.int .i64 0),.v 60 (.bool false),.v 61 (.bool false),.v 62 (pT (p12 8).N 1),.l 63 (.string s3) 1 1,.v 64 (.bool e),.v 65 (.bool e)]) (fun p13=>[(2,.int .u64 ((nv (q - 0):Nat):Int)),(4,pT (p1 0).N 0),(9,.bool true),(10,.int .i64 (q:Int)),(12,.string (tx (q - 0))),(13,.int .i64 ((q - 0:Nat):Int)),(14,pT (p12 8).N 0),(15,.int .i64 0),(38,.bool false),(65,.bool e)]) (fun p13=>?_) (fun p13 W13 T hF hJ=>?_)
  ·iterate 4 refine okv ?_
   refine okl ?_
   refine okvb (he) ?_
   refine okv ?_
   exact ok_nil
  replace hS:=SymF.fd hS hF
  replace hG:=hF.gx
  clear hF hK
  have hK:=hJ
  clear hJ
  cases e
  ·refine wp_cond_false (hK.ew 65) (wp_skip (then_n ?_))
   refine wq hS hG hK (fun p14=>[.l 72 (.agg #[.int .i64 E,.int .i64 F]) 0 0,.l 73 (.agg #[.bool g3,.string s3,.int .i64 x3]) 1 0,.c (some 74) (cV (.tuple #[.bool inn,.bool true])),.v 71 (.tuple #[.bool inn,.bool true]),.v 75 (.bool inn),.v 76 (.bool true),.v 16 (.bool inn),.v 17 (.bool true)]) (fun p14=>[(2,.int .u64 ((nv (q - 0):Nat):Int)),(4,pT (p1 0).N 0),(9,.bool true),(10,.int .i64 (q:Int)),(12,.string (tx (q - 0))),(13,.int .i64 ((q - 0:Nat):Int)),(14,pT (p12 8).N 0),(15,.int .i64 0),(16,.bool inn),(17,.bool true),(38,.bool false),(65,.bool false)]) (fun p14=>?_) (fun p14 W14 T hF hJ=>?_)
   ·iterate 2 refine okl ?_
    refine okc (fun W cx=>as_v (unhide HI rfl _ (ht.kept cx.fr))) ?_
    iterate 5 refine okv ?_
    exact ok_nil
   replace hS:=SymF.fc hS hF [0,1] [⟨(p1 0).N,#[.int .i64 E,.int .i64 F],23,true⟩,⟨(p12 8).N,#[.bool g3,.string s3,.int .i64 x3],35,true⟩]
   replace hG:=hF.gx
   clear hF hK
   have hK:=hJ
   clear hJ
   have z14:=hS.fr.size
   refine wp_seq ?_
   refine wq hS hG hK (fun p15=>[.v 77 (.bool true),.v 78 (.bool false)]) (fun p15=>[(2,.int .u64 ((nv (q - 0):Nat):Int)),(4,pT (p1 0).N 0),(9,.bool true),(10,.int .i64 (q:Int)),(12,.string (tx (q - 0))),(13,.int .i64 ((q - 0:Nat):Int)),(14,pT (p12 8).N 0),(15,.int .i64 0),(16,.bool inn),(38,.bool false),(65,.bool false),(78,.bool false)]) (fun p15=>?_) (fun p15 W15 T hF hJ=>?_)
   ·iterate 2 refine okv ?_
    exact ok_nil
   replace hS:=SymF.fd hS hF
   replace hG:=hF.gx
   clear hF hK
   have hK:=hJ
   clear hJ
   refine wp_cond_false (hK.ew 78) (wp_skip ?_)
   refine then_n (wp_seq ?_)
   refine wq hS hG hK (fun p16=>[.v 79 (.bool inn),.v 80 (.bool (!inn))]) (fun p16=>[(2,.int .u64 ((nv (q - 0):Nat):Int)),(4,pT (p1 0).N 0),(9,.bool true),(10,.int .i64 (q:Int)),(12,.string (tx (q - 0))),(13,.int .i64 ((q - 0:Nat):Int)),(14,pT (p12 8).N 0),(15,.int .i64 0),(38,.bool false),(65,.bool false),(78,.bool false),(80,.bool (!inn))]) (fun p16=>?_) (fun p16 W16 T hF hJ=>?_)
   ·iterate 2 refine okv ?_
    exact ok_nil
   replace hS:=SymF.fd hS hF
   replace hG:=hF.gx
   clear hF hK
   have hK:=hJ
   clear hJ
   cases inn
   ·refine wp_cond_true (hK.ew 80) ?_
    refine wq hS hG hK (fun p17=>[.v 81 (.bool true),.v 8 (.bool true)]) (fun p17=>[(2,.int .u64 ((nv (q - 0):Nat):Int)),(4,pT (p1 0).N 0),(8,.bool true),(9,.bool true),(10,.int .i64 (q:Int)),(12,.string (tx (q - 0))),(13,.int .i64 ((q - 0:Nat):Int)),(14,pT (p12 8).N 0),(15,.int .i64 0),(38,.bool false),(65,.bool false),(78,.bool false),(80,.bool true)]) (fun p17=>?_) (fun p17 W17 T hF hJ=>?_)
    ·iterate 2 refine okv ?_
     exact ok_nil
    replace hS:=SymF.fc hS hF [0,1] [⟨(p1 0).N,#[.int .i64 E,.int .i64 F],23,true⟩,⟨(p12 8).N,#[.bool g3,.string s3,.int .i64 x3],35,true⟩]
    replace hG:=hF.gx
    clear hF hK
    have hK:=hJ
    clear hJ
    have z17:=hS.fr.size
    refine wp_ret ?_
    refine then_r ?_
    exact sym_end hS hK (.bool true) [] [] (by kernel_rfl) (by kernel_rfl) ⟨rfl,hS.fr⟩
   ·refine wp_cond_false (hK.ew 80) (wp_skip (then_n ?_))
    refine wq hS hG hK (fun p17=>[.l 83 (.agg #[.int .i64 E,.int .i64 F]) 0 0,.l 84 (.agg #[.bool g3,.string s3,.int .i64 x3]) 1 0,.c (some 85) (cV (.tuple #[.int .u64 rb,.bool true])),.v 82 (.tuple #[.int .u64 rb,.bool true]),.v 86 (.int .u64 rb),.v 87 (.bool true),.v 18 (.int .u64 rb),.v 19 (.bool true)]) (fun p17=>[(2,.int .u64 ((nv (q - 0):Nat):Int)),(4,pT (p1 0).N 0),(9,.bool true),(10,.int .i64 (q:Int)),(12,.string (tx (q - 0))),(13,.int .i64 ((q - 0:Nat):Int)),(14,pT (p12 8).N 0),(15,.int .i64 0),(18,.int .u64 rb),(19,.bool true),(38,.bool false),(65,.bool false),(78,.bool false),(80,.bool false)]) (fun p17=>?_) (fun p17 W17 T hF hJ=>?_)
    ·iterate 2 refine okl ?_
     refine okc (fun W cx=>as_v (unhide HB rfl rfl _ (ht.kept cx.fr))) ?_
     iterate 5 refine okv ?_
     exact ok_nil
    replace hS:=SymF.fc hS hF [0,1] [⟨(p1 0).N,#[.int .i64 E,.int .i64 F],23,true⟩,⟨(p12 8).N,#[.bool g3,.string s3,.int .i64 x3],35,true⟩]
    replace hG:=hF.gx
    clear hF hK
    have hK:=hJ
    clear hJ
    have z17:=hS.fr.size
    refine wq hS hG hK (fun p18=>[.l 89 (.agg #[.int .i64 E,.int .i64 F]) 0 0,.v 90 (.int .u64 rb),.v 91 (.int .i64 (q:Int)),.c (some 92) (cV (.tuple #[.agg #[.bool g3,.string s3,.int .i64 x3],.bool i5,.int .i64 0])),.v 88 (.tuple #[.agg #[.bool g3,.string s3,.int .i64 x3],.bool i5,.int .i64 0]),.v 93 (.agg #[.bool g3,.string s3,.int .i64 x3]),.v 94 (.bool i5),.v 95 (.int .i64 0),.n 20 #[.bool false,.string ⟨#[]⟩,.int .i64 0] 35,.p 1008 0 [.bool g3,.string s3,.int .i64 x3],.v 21 (.bool i5),.v 22 (.int .i64 0)]) (fun p18=>[(2,.int .u64 ((nv (q - 0):Nat):Int)),(9,.bool true),(12,.string (tx (q - 0))),(13,.int .i64 ((q - 0:Nat):Int)),(14,pT (p12 8).N 0),(15,.int .i64 0),(19,.bool true),(20,pT (p18 8).N 0),(22,.int .i64 0),(38,.bool false),(65,.bool false),(78,.bool false),(80,.bool false)]) (fun p18=>?_) (fun p18 W18 T hF hJ=>?_)
    ·refine okl ?_
     iterate 2 refine okv ?_
     refine okc (fun W cx=>as_v (unhide HO rfl rfl _ (ht.kept cx.fr) (htp.kept cx.fr))) ?_
     iterate 4 refine okv ?_
     refine okn ?_
     refine okp ?_
     iterate 2 refine okv ?_
     exact ok_nil
    replace hS:=SymF.fc hS hF [1,1008] [⟨(p12 8).N,#[.bool g3,.string s3,.int .i64 x3],35,true⟩,⟨(p18 8).N,#[.bool g3,.string s3,.int .i64 x3],35,true⟩]
    replace hG:=hF.gx
    clear hF hK
    have hK:=hJ
    clear hJ
    refine wq hS hG hK (fun p19=>[.v 96 (.bool true),.v 97 (.bool true),.v 98 (.bool true),.v 99 (.bool true),.v 100 (.bool true),.v 101 (.int .i64 0),.v 102 (.bool true),.v 103 (.bool true),.v 104 (.bool true),.l 105 (.agg #[.bool g3,.string s3,.int .i64 x3]) 1 0,.l 106 (.agg #[.bool g3,.string s3,.int .i64 x3]) 0 0,.v 107 (.bool true),.v 108 (.bool true),.v 8 (.bool true)]) (fun p19=>[(2,.int .u64 ((nv (q - 0):Nat):Int)),(8,.bool true),(9,.bool true),(12,.string (tx (q - 0))),(13,.int .i64 ((q - 0:Nat):Int)),(15,.int .i64 0),(38,.bool false),(65,.bool false),(78,.bool false),(80,.bool false)]) (fun p19=>?_) (fun p19 W19 T hF hJ=>?_)
    ·iterate 9 refine okv ?_
     iterate 2 refine okl ?_
     refine ok_vr (dc_eql (g3) (s3) (x3)) (by kernel_rfl) ?_
     iterate 2 refine okv ?_
     exact ok_nil
    replace hS:=SymF.fc hS hF [] []
    replace hG:=hF.gx
    clear hF hK
    have hK:=hJ
    clear hJ
    refine wp_ret ?_
    exact sym_end hS hK (.bool true) [] [] (by kernel_rfl) (by kernel_rfl) ⟨rfl,hS.fr⟩
  ·refine wp_cond_true (hK.ew 65) ?_
   refine wq hS hG hK (fun p14=>[.v 66 (.bool true),.v 67 (.bool true),.v 68 (.int .i64 0),.v 69 (.bool true),.v 70 (.bool true),.v 8 (.bool true)]) (fun p14=>[(2,.int .u64 ((nv (q - 0):Nat):Int)),(4,pT (p1 0).N 0),(8,.bool true),(9,.bool true),(10,.int .i64 (q:Int)),(12,.string (tx (q - 0))),(13,.int .i64 ((q - 0:Nat):Int)),(14,pT (p12 8).N 0),(38,.bool false),(65,.bool true)]) (fun p14=>?_) (fun p14 W14 T hF hJ=>?_)
   ·iterate 6 refine okv ?_
    exact ok_nil
   replace hS:=SymF.fc hS hF [0,1] [⟨(p1 0).N,#[.int .i64 E,.int .i64 F],23,true⟩,⟨(p12 8).N,#[.bool g3,.string s3,.int .i64 x3],35,true⟩]
   replace hG:=hF.gx
   clear hF hK
   have hK:=hJ
   clear hJ
   have z14:=hS.fr.size
   refine wp_ret ?_
   refine then_r ?_
   exact sym_end hS hK (.bool true) [] [] (by kernel_rfl) (by kernel_rfl) ⟨rfl,hS.fr⟩
end Go.Proofs.YteafdlblemdclaaGreatDoor
