/- Of what DigitsEnoughRow stands on: DbEq DcNearN DcDifN DgEq DgLawW DgEnW. -/
import Derived.Test.YteafdlblemdclaaGreatDoorPbd
import Derived.Test.YteafdlblemdclaaGreatDoorPbh
import Derived.Test.YteafdlblemdclaaGreatDoorPbc
namespace Go.Proofs.YteafdlblemdclaaGreatDoor
open Go.RowKit
set_option maxHeartbeats 2000000
set_option maxRecDepth 20000
theorem dbe_under:Tryz.prog.underlying 35 = some (.struct (Tryz.prog.fieldsOf 35)):=by kernel_rfl
theorem dbe_eq {r:Nat} (g:Bool) (s:ByteArray) (x:Int):script Tryz.prog r (Op.equal 35 (.agg #[.bool g,.string s,.int .i64 x]) (.agg #[.bool g,.string s,.int .i64 x])) [] = some (true,[]):=by
 have hE:script Tryz.prog r (Op.equalIn (9999+1) 35 (.agg #[.bool g,.string s,.int .i64 x]) (.agg #[.bool g,.string s,.int .i64 x])) [] = some (true,[]):=by
  refine script_struct 9999 _ _ _ dbe_under (by kernel_rfl) ?_
  have n1 : (Tryz.prog.fieldsOf 35).toList.map (fun f => (f.name, f.type, f.offset)) = [("Neg", 4, 0), ("Digits", 9, 1), ("Exp", 3, 2)] := by kernel_rfl
  generalize (Tryz.prog.fieldsOf 35).toList = fs at n1 ⊢
  rcases fs with _|⟨f1,_|⟨f2,_|⟨f3,_|⟨f4,fs⟩⟩⟩⟩ <;> simp only [List.map_cons,List.map_nil,List.cons.injEq,Prod.mk.injEq,and_true,reduceCtorEq,and_false] at n1
  obtain ⟨⟨a1,a2,a3⟩,⟨b1,b2,b3⟩,c1,c2,c3⟩:=n1
  rw [Op.eqFields,if_pos (by rw [a1]; decide),a2,a3,script_bind Tryz.prog r _ _ [] (.bool g) (by kernel_rfl),script_bind Tryz.prog r _ _ [] (.bool g) (by kernel_rfl),script_bind Tryz.prog r _ _ [] _ (script_eqb g (by kernel_rfl)),if_neg (by decide)]
  rw [Op.eqFields,if_pos (by rw [b1]; decide),b2,b3,script_bind Tryz.prog r _ _ [] (.string s) (by kernel_rfl),script_bind Tryz.prog r _ _ [] (.string s) (by kernel_rfl),script_bind Tryz.prog r _ _ [] _ (script_eqs s (by kernel_rfl)),if_neg (by decide)]
  rw [Op.eqFields,if_pos (by rw [c1]; decide),c2,c3,script_bind Tryz.prog r _ _ [] (.int .i64 x) (by kernel_rfl),script_bind Tryz.prog r _ _ [] (.int .i64 x) (by kernel_rfl),script_bind Tryz.prog r _ _ [] _ (script_eqi x (by kernel_rfl)),if_neg (by decide)]
  rfl
 unfold Op.equal Op.maxDepth
 rw [show (10000:Nat) = 9999+1 from rfl]
 exact hE
def rdist (c R:Nat) (up:Bool):Nat:=if up then 10 ^ c - R else R
theorem ten_half {c:Nat} (h:0 < c):10 ^ c = 2 * (5 * 10 ^ (c - 1)):=by
 obtain ⟨k,rfl⟩:∃ k,c = k+1:=⟨c - 1,by omega⟩
 rw [Nat.pow_succ,Nat.add_sub_cancel]
 omega
theorem Rnd.dist {s:ByteArray} {g:Bool} {md c Q R:Nat} {up:Bool} (h:Rnd s g md c Q R up) (hc:0 < c) (hmd:md≤4) :
  0 < rdist c R up∧rdist c R up < 10 ^ c ∧
  (up = true→(Q+(if up then 1 else 0)) * 10 ^ c = valS s+rdist c R up) ∧
  (up = false→valS s = (Q+(if up then 1 else 0)) * 10 ^ c+rdist c R up) ∧
  (md = 3→up = !g)∧(md = 4→up = g)∧(md = 2→up = false) ∧
  (md≤1→rdist c R up≤5 * 10 ^ (c - 1)):=by
 obtain ⟨hv,hp,hl,hu⟩:=h
 have ht:=ten_half hc
 unfold rdist
 refine ⟨?_,?_,?_,?_,?_,?_,?_,?_⟩
 ·cases up <;> simp <;> omega
 ·cases up <;> simp <;> omega
 ·rintro rfl
  rw [if_pos rfl,if_pos rfl,hv,Nat.add_mul]
  omega
 ·rintro rfl
  rw [if_neg (by decide),if_neg (by decide),hv,Nat.add_zero]
 ·rintro rfl
  exact hu
 ·rintro rfl
  exact hu
 ·rintro rfl
  exact hu
 ·intro h1
  have h01:md = 0∨md = 1:=by omega
  generalize 5 * 10 ^ (c - 1) = H at *
  have hz:(R < H∧cmpZ (R:Int) (H:Int) = -1)∨(H < R∧cmpZ (R:Int) (H:Int) = 1)∨(R = H∧cmpZ (R:Int) (H:Int) = 0):=by
   unfold cmpZ
   rcases Nat.lt_trichotomy R H with q|q|q
   ·exact Or.inl ⟨q,if_pos (by omega)⟩
   ·exact Or.inr (Or.inr ⟨q,by rw [if_neg (by omega),if_neg (by omega)]⟩)
   ·exact Or.inr (Or.inl ⟨q,by rw [if_neg (by omega),if_pos (by omega)]⟩)
  rcases hz with ⟨q,e⟩|⟨q,e⟩|⟨q,e⟩
  ·have:up = false:=by
    rw [hu,e]
    rcases h01 with rfl|rfl <;> simp [gOut]
   subst this
   simp; omega
  ·have:up = true:=by
    rw [hu,e]
    rcases h01 with rfl|rfl <;> simp [gOut]
   subst this
   simp; omega
  ·cases up <;> simp <;> omega
theorem DcOk.lst {s:ByteArray} {x:Int} (h:DcOk s x):∀ k,(hk:k+1 = s.size)→(s[k]'(by omega)).toNat≠48:=fun k hk=>by
 refine h.cd.2 _ ?_
 have hz:s.data.size = s.size:=rfl
 rw [List.getLast?_eq_getElem?,Array.length_toList,List.getElem?_eq_getElem (by rw [Array.length_toList]; omega)]
 have hk2:s.data.size - 1 = k:=by omega
 subst hk2
 rfl
theorem DcOk.chk {s:ByteArray} {x:Int} (h:DcOk s x) (g:Bool) (W:World) :
  Calls Tryz.prog 14 #[.agg #[.bool g,.string s,.int .i64 x]] W fun en W'=>en = .returned (.int .i64 0)∧Below W.heap.size W W':=by
 by_cases h0:s.size = 0
 ·exact dck_z0 W g s x h.sz h0 (h.zero h0)
 ·exact chk_good g s x h.sz h0 h.ok h.fst h.lst h.lo h.hi W
def apart (M N:Nat):Nat:=if N < M then M - N else N - M
theorem mkA_near {g:Bool} {D:Nat} {x:Int} {V:Value} (h:MkA g D x V) (h0:D≠0) (hD:D < tenTop 65536) (hx0:-1073741824≤x) (hx1:x≤1000000000) :
  ∃ (s3:ByteArray) (z:Nat),V = .tuple #[.agg #[.bool g,.string s3,.int .i64 (x+(z:Int))],.int .i64 0]∧DcOk s3 (x+(z:Int))∧valS s3 * 10 ^ z = D:=by
 rcases h with ⟨e,_⟩|⟨t,n,z,h1,h10,hS,h⟩
 ·exact absurd e h0
 have hz:z < 65536:=by
  rcases Nat.lt_or_ge z 65536 with q|q
  ·exact q
  ·exfalso
   have a1:=tenTop_le q
   have a2:10 ^ z≤n * 10 ^ z:=Nat.le_mul_of_pos_left _ (by omega)
   omega
 have hle:n≤D:=by rw [h1]; exact Nat.le_mul_of_pos_right _ (Nat.pow_pos (by omega))
 rcases h with ⟨hr,_⟩|⟨hr,hV⟩
 ·omega
 ·obtain ⟨k1,k2,_⟩:=says_ok hS h10 (Nat.lt_of_le_of_lt hle hD) (y:=x+(z:Int)) (by omega) (by omega)
  exact ⟨t,z,hV,k1,by rw [k2,h1]⟩
theorem dc_eql {r:Nat} (g:Bool) (s:ByteArray) (x:Int):script Tryz.prog r (binOp .eql 35 (.agg #[.bool g,.string s,.int .i64 x]) (.agg #[.bool g,.string s,.int .i64 x])) [] = some (.bool true,[]):=by
 simp only [binOp]
 rw [script_bind Tryz.prog r (Op.equal _ _ _) _ [] true (dbe_eq g s x)]
 rfl
theorem dalive_is (w:World)  (ht:Tb w) (htp:Tpw w) (H1:Hid (∀ W:World,Tb W→Tpw W→Calls Tryz.prog 9 #[.agg #[.int .i64 5,.int .i64 10],.int .u64 11878] W fun e W'=>e = .returned (.tuple #[.agg #[.bool false,.string ⟨#[57,57,57,55,53,53,56,53,57,51,55,53]⟩,.int .i64 (-13)],.int .i64 0])∧Below W.heap.size W W')) (H2:Hid (∀ W:World,Tb W→Tpw W→Calls Tryz.prog 15 #[.agg #[.int .i64 5,.int .i64 10],.int .u64 11878,.int .i64 3,.int .u8 0] W fun e W'=>e = .returned (.tuple #[.agg #[.bool false,.string ⟨#[49]⟩,.int .i64 (-1)],.bool false,.int .i64 0])∧Below W.heap.size W W')) (H3:Hid (∀ W:World,Tb W→Tpw W→Calls Tryz.prog 16 #[.agg #[.int .i64 5,.int .i64 10],.int .u64 32769,.int .i64 3,.int .u8 4] W fun e W'=>e = .returned (.tuple #[.agg #[.bool true,.string ⟨#[49]⟩,.int .i64 (-3)],.bool false,.int .i64 0])∧Below W.heap.size W W')) (H4:Hid (∀ W:World,Calls Tryz.prog 19 #[.agg #[.int .i64 5,.int .i64 10]] W fun e W'=>e = .returned (.tuple #[.int .i64 5,.int .i64 0])∧Below W.heap.size W W')) (H5:Hid (∀ W:World,Calls Tryz.prog 22 #[.agg #[.int .i64 5,.int .i64 10]] W fun e W'=>e = .returned (.tuple #[.int .i64 3,.int .i64 0])∧Below W.heap.size W W')) :
  Calls Tryz.prog 7 #[] w fun en w'=>en = .returned (.bool true)∧Below w.heap.size w w':=by
 refine calls_sym Tryz.func7 rfl (by kernel_rfl) fun T hK=>?_
 replace hK:Kn T _ []:=hK
 have hS:=Fb.begin w
 have hG:GsAt [] w:=trivial
 refine wq hS hG hK (fun p1=>[.v 0 (.bool false)]) (fun p1=>[(0,.bool false)]) (fun p1=>?_) (fun p1 W1 T hF hK=>?_)
 ·refine okv ?_
  exact ok_nil
 replace hS:=SymF.fc hS hF [] []
 replace hG:=hF.gx
 clear hF
 refine wq hS hG hK (fun p2=>[.v 14 (.agg #[.int .i64 5,.int .i64 10]),.n 1 #[.int .i64 0,.int .i64 0] 23,.p 1001 0 [.int .i64 5,.int .i64 10]]) (fun p2=>[(0,.bool false),(1,pT (p2 1).N 0)]) (fun p2=>?_) (fun p2 W2 T hF hK=>?_)
 ·refine okv ?_
  refine okn ?_
  refine okp ?_
  exact ok_nil
 replace hS:=SymF.fc hS hF [1001] [⟨(p2 1).N,#[.int .i64 5,.int .i64 10],23,true⟩]
 replace hG:=hF.gx
 clear hF
 refine wq hS hG hK (fun p3=>[.l 16 (.agg #[.int .i64 5,.int .i64 10]) 0 0,.c (some 17) (cV (.tuple #[.agg #[.bool false,.string ⟨#[57,57,57,55,53,53,56,53,57,51,55,53]⟩,.int .i64 (-13)],.int .i64 0])),.v 15 (.tuple #[.agg #[.bool false,.string ⟨#[57,57,57,55,53,53,56,53,57,51,55,53]⟩,.int .i64 (-13)],.int .i64 0]),.v 18 (.agg #[.bool false,.string ⟨#[57,57,57,55,53,53,56,53,57,51,55,53]⟩,.int .i64 (-13)]),.v 19 (.int .i64 0),.n 2 #[.bool false,.string ⟨#[]⟩,.int .i64 0] 35,.p 1005 0 [.bool false,.string ⟨#[57,57,57,55,53,53,56,53,57,51,55,53]⟩,.int .i64 (-13)],.v 3 (.int .i64 0)]) (fun p3=>[(0,.bool false),(1,pT (p2 1).N 0),(2,pT (p3 5).N 0),(3,.int .i64 0)]) (fun p3=>?_) (fun p3 W3 T hF hK=>?_)
 ·refine okl ?_
  refine okc (fun W cx=>as_v (unhide H1 _ (ht.kept cx.fr) (htp.kept cx.fr))) ?_
  iterate 3 refine okv ?_
  refine okn ?_
  refine okp ?_
  refine okv ?_
  exact ok_nil
 replace hS:=SymF.fc hS hF [0,1005] [⟨(p2 1).N,#[.int .i64 5,.int .i64 10],23,true⟩,⟨(p3 5).N,#[.bool false,.string ⟨#[57,57,57,55,53,53,56,53,57,51,55,53]⟩,.int .i64 (-13)],35,true⟩]
 replace hG:=hF.gx
 clear hF
 refine wq hS hG hK (fun p4=>[.l 21 (.agg #[.int .i64 5,.int .i64 10]) 0 0,.c (some 22) (cV (.tuple #[.agg #[.bool false,.string ⟨#[49]⟩,.int .i64 (-1)],.bool false,.int .i64 0])),.v 20 (.tuple #[.agg #[.bool false,.string ⟨#[49]⟩,.int .i64 (-1)],.bool false,.int .i64 0]),.v 23 (.agg #[.bool false,.string ⟨#[49]⟩,.int .i64 (-1)]),.v 24 (.bool false),.v 25 (.int .i64 0),.n 4 #[.bool false,.string ⟨#[]⟩,.int .i64 0] 35,.p 1006 0 [.bool false,.string ⟨#[49]⟩,.int .i64 (-1)],.v 5 (.bool false),.v 6 (.int .i64 0)]) (fun p4=>[(0,.bool false),(1,pT (p2 1).N 0),(2,pT (p3 5).N 0),(3,.int .i64 0),(4,pT (p4 6).N 0),(5,.bool false),(6,.int .i64 0)]) (fun p4=>?_) (fun p4 W4 T hF hK=>?_)
 ·refine okl ?_
  refine okc (fun W cx=>as_v (unhide H2 _ (ht.kept cx.fr) (htp.kept cx.fr))) ?_
  iterate 4 refine okv ?_
  refine okn ?_
  refine okp ?_
  iterate 2 refine okv ?_
  exact ok_nil
 replace hS:=SymF.fc hS hF [0,1,1006] [⟨(p2 1).N,#[.int .i64 5,.int .i64 10],23,true⟩,⟨(p3 5).N,#[.bool false,.string ⟨#[57,57,57,55,53,53,56,53,57,51,55,53]⟩,.int .i64 (-13)],35,true⟩,⟨(p4 6).N,#[.bool false,.string ⟨#[49]⟩,.int .i64 (-1)],35,true⟩]
 replace hG:=hF.gx
 clear hF
 refine wq hS hG hK (fun p5=>[.l 27 (.agg #[.int .i64 5,.int .i64 10]) 0 0,.c (some 28) (cV (.tuple #[.agg #[.bool true,.string ⟨#[49]⟩,.int .i64 (-3)],.bool false,.int .i64 0])),.v 26 (.tuple #[.agg #[.bool true,.string ⟨#[49]⟩,.int .i64 (-3)],.bool false,.int .i64 0]),.v 29 (.agg #[.bool true,.string ⟨#[49]⟩,.int .i64 (-3)]),.v 30 (.bool false),.v 31 (.int .i64 0),.n 7 #[.bool false,.string ⟨#[]⟩,.int .i64 0] 35,.p 1006 0 [.bool true,.string ⟨#[49]⟩,.int .i64 (-3)],.v 8 (.bool false),.v 9 (.int .i64 0)]) (fun p5=>[(0,.bool false),(1,pT (p2 1).N 0),(2,pT (p3 5).N 0),(3,.int .i64 0),(4,pT (p4 6).N 0),(5,.bool false),(6,.int .i64 0),(7,pT (p5 6).N 0),(8,.bool false),(9,.int .i64 0)]) (fun p5=>?_) (fun p5 W5 T hF hK=>?_)
 ·refine okl ?_
  refine okc (fun W cx=>as_v (unhide H3 _ (ht.kept cx.fr) (htp.kept cx.fr))) ?_
  iterate 4 refine okv ?_
  refine okn ?_
  refine okp ?_
  iterate 2 refine okv ?_
  exact ok_nil
 replace hS:=SymF.fc hS hF [0,1,2,1006] [⟨(p2 1).N,#[.int .i64 5,.int .i64 10],23,true⟩,⟨(p3 5).N,#[.bool false,.string ⟨#[57,57,57,55,53,53,56,53,57,51,55,53]⟩,.int .i64 (-13)],35,true⟩,⟨(p4 6).N,#[.bool false,.string ⟨#[49]⟩,.int .i64 (-1)],35,true⟩,⟨(p5 6).N,#[.bool true,.string ⟨#[49]⟩,.int .i64 (-3)],35,true⟩]
 replace hG:=hF.gx
 clear hF
 refine wq hS hG hK (fun p6=>[.l 33 (.agg #[.int .i64 5,.int .i64 10]) 0 0,.c (some 34) (cV (.tuple #[.int .i64 5,.int .i64 0])),.v 32 (.tuple #[.int .i64 5,.int .i64 0]),.v 35 (.int .i64 5),.v 36 (.int .i64 0),.v 10 (.int .i64 5),.v 11 (.int .i64 0)]) (fun p6=>[(0,.bool false),(1,pT (p2 1).N 0),(2,pT (p3 5).N 0),(3,.int .i64 0),(4,pT (p4 6).N 0),(5,.bool false),(6,.int .i64 0),(7,pT (p5 6).N 0),(8,.bool false),(9,.int .i64 0),(10,.int .i64 5),(11,.int .i64 0)]) (fun p6=>?_) (fun p6 W6 T hF hK=>?_)
 ·refine okl ?_
  refine okc (fun W cx=>as_v (unhide H4 _)) ?_
  iterate 5 refine okv ?_
  exact ok_nil
 obtain ⟨hS,hG⟩:=SymF.fg hS hF
 clear hF
 refine wq hS hG hK (fun p7=>[.l 38 (.agg #[.int .i64 5,.int .i64 10]) 0 0,.c (some 39) (cV (.tuple #[.int .i64 3,.int .i64 0])),.v 37 (.tuple #[.int .i64 3,.int .i64 0]),.v 40 (.int .i64 3),.v 41 (.int .i64 0),.v 12 (.int .i64 3),.v 13 (.int .i64 0)]) (fun p7=>[(0,.bool false),(2,pT (p3 5).N 0),(3,.int .i64 0),(4,pT (p4 6).N 0),(5,.bool false),(6,.int .i64 0),(7,pT (p5 6).N 0),(8,.bool false),(9,.int .i64 0),(10,.int .i64 5),(11,.int .i64 0),(12,.int .i64 3),(13,.int .i64 0)]) (fun p7=>?_) (fun p7 W7 T hF hK=>?_)
 ·refine okl ?_
  refine okc (fun W cx=>as_v (unhide H5 _)) ?_
  iterate 5 refine okv ?_
  exact ok_nil
 replace hS:=SymF.fc hS hF [1,2,3] [⟨(p3 5).N,#[.bool false,.string ⟨#[57,57,57,55,53,53,56,53,57,51,55,53]⟩,.int .i64 (-13)],35,true⟩,⟨(p4 6).N,#[.bool false,.string ⟨#[49]⟩,.int .i64 (-1)],35,true⟩,⟨(p5 6).N,#[.bool true,.string ⟨#[49]⟩,.int .i64 (-3)],35,true⟩]
 replace hG:=hF.gx
 clear hF
 refine wq hS hG hK (fun p8=>[.v 42 (.int .i64 0),.v 43 (.bool true),.v 44 (.bool true),.v 45 (.int .i64 0),.v 46 (.bool true),.v 47 (.bool true),.v 48 (.bool true),.v 49 (.int .i64 0),.v 50 (.bool true),.v 51 (.bool true),.v 52 (.bool true),.v 53 (.int .i64 0),.v 54 (.bool true),.v 55 (.bool true),.v 56 (.bool true),.v 57 (.int .i64 0),.v 58 (.bool true),.v 59 (.bool true),.v 60 (.bool true),.l 61 (.agg #[.bool false,.string ⟨#[57,57,57,55,53,53,56,53,57,51,55,53]⟩,.int .i64 (-13)]) 0 0,.v 62 (.agg #[.bool false,.string { data:=#[57,57,57,55,53,53,56,53,57,51,55,53] },.int .i64 (-13)]),.v 63 (.bool true),.v 64 (.bool true),.v 65 (.bool true),.l 66 (.agg #[.bool false,.string ⟨#[49]⟩,.int .i64 (-1)]) 1 0,.v 67 (.agg #[.bool false,.string { data:=#[49] },.int .i64 (-1)]),.v 68 (.bool true),.v 69 (.bool true),.v 70 (.bool true),.v 71 (.bool false),.v 72 (.bool true),.v 73 (.bool true),.v 74 (.bool true),.l 75 (.agg #[.bool true,.string ⟨#[49]⟩,.int .i64 (-3)]) 2 0,.v 76 (.agg #[.bool true,.string { data:=#[49] },.int .i64 (-3)]),.v 77 (.bool true),.v 78 (.bool true),.v 79 (.bool true),.v 80 (.bool false),.v 81 (.bool true),.v 82 (.bool true),.v 83 (.bool true),.v 84 (.int .i64 5),.v 85 (.bool true),.v 86 (.bool true),.v 87 (.bool true),.v 88 (.int .i64 3),.v 89 (.bool true),.v 90 (.bool true),.v 0 (.bool true)]) (fun p8=>[(0,.bool true)]) (fun p8=>?_) (fun p8 W8 T hF hK=>?_)
 ·iterate 19 refine okv ?_
  refine okl ?_
  refine okv ?_
  refine ok_vr (dc_eql (false) (⟨#[57,57,57,55,53,53,56,53,57,51,55,53]⟩) ((-13))) (by kernel_rfl) ?_
  iterate 2 refine okv ?_
  refine okl ?_
  refine okv ?_
  refine ok_vr (dc_eql (false) (⟨#[49]⟩) ((-1))) (by kernel_rfl) ?_
  iterate 6 refine okv ?_
  refine okl ?_
  refine okv ?_
  refine ok_vr (dc_eql (true) (⟨#[49]⟩) ((-3))) (by kernel_rfl) ?_
  iterate 14 refine okv ?_
  exact ok_nil
 replace hS:=SymF.fc hS hF [] []
 replace hG:=hF.gx
 clear hF
 refine wp_ret ?_
 exact sym_end hS hK (.bool true) [] [] (by kernel_rfl) (by kernel_rfl) ⟨rfl,hS.fr⟩
theorem dchf_is (w:World) (E F err:Int) (HV:Hid (∀ W:World,Calls Tryz.prog 8 #[.agg #[.int .i64 E,.int .i64 F],.int .u64 0] W fun e W'=>e = .returned (.tuple #[.agg #[.bool false,.slice none 0 0,.int .i64 0],.int .i64 err])∧Below W.heap.size W W')) :
  Calls Tryz.prog 45 #[.agg #[.int .i64 E,.int .i64 F]] w fun en w'=>en = .returned (.int .i64 err)∧Below w.heap.size w w':=by
 refine calls_sym Tryz.func45 rfl (by kernel_rfl) fun T hK=>?_
 replace hK:Kn T _ [(0,.agg #[.int .i64 E,.int .i64 F])]:=hK
 have hS:=Fb.begin w
 have hG:GsAt [] w:=trivial
 refine wq hS hG hK (fun p1=>[.n 1 #[.int .i64 E,.int .i64 F] 23,.v 2 (.int .i64 0)]) (fun p1=>[(1,pT (p1 0).N 0),(2,.int .i64 0)]) (fun p1=>?_) (fun p1 W1 T hF hK=>?_)
 ·refine okn ?_
  refine okv ?_
  exact ok_nil
 replace hS:=SymF.fc hS hF [1000] [⟨(p1 0).N,#[.int .i64 E,.int .i64 F],23,true⟩]
 replace hG:=hF.gx
 clear hF
 refine wq hS hG hK (fun p2=>[.l 6 (.agg #[.int .i64 E,.int .i64 F]) 0 0,.c (some 7) (cV (.tuple #[.agg #[.bool false,.slice none 0 0,.int .i64 0],.int .i64 err])),.v 5 (.tuple #[.agg #[.bool false,.slice none 0 0,.int .i64 0],.int .i64 err]),.v 8 (.agg #[.bool false,.slice none 0 0,.int .i64 0]),.v 9 (.int .i64 err),.n 3 #[.bool false,.slice none 0 0,.int .i64 0] 30,.p 1005 0 [.bool false,.slice none 0 0,.int .i64 0],.v 4 (.int .i64 err)]) (fun p2=>[(2,.int .i64 0),(4,.int .i64 err)]) (fun p2=>?_) (fun p2 W2 T hF hK=>?_)
 ·refine okl ?_
  refine okc (fun W cx=>as_v (unhide HV _)) ?_
  iterate 3 refine okv ?_
  refine okn ?_
  refine okp ?_
  refine okv ?_
  exact ok_nil
 replace hS:=SymF.fc hS hF [] []
 replace hG:=hF.gx
 clear hF
 refine wq hS hG hK (fun p3=>[.v 10 (.int .i64 err),.v 2 (.int .i64 err)]) (fun p3=>[(2,.int .i64 err)]) (fun p3=>?_) (fun p3 W3 T hF hK=>?_)
 ·iterate 2 refine okv ?_
  exact ok_nil
 obtain ⟨hS,hG⟩:=SymF.fg hS hF
 clear hF
 refine wp_ret ?_
 exact sym_end hS hK (.int .i64 err) [] [] (by kernel_rfl) (by kernel_rfl) ⟨rfl,hS.fr⟩
theorem den_e (w:World) (E F err:Int) (he:err≠0) (HK:Hid (∀ W:World,Calls Tryz.prog 45 #[.agg #[.int .i64 E,.int .i64 F]] W fun e W'=>e = .returned (.int .i64 err)∧Below W.heap.size W W')) :
  Calls Tryz.prog 19 #[.agg #[.int .i64 E,.int .i64 F]] w fun en w'=>en = .returned (.tuple #[.int .i64 0,.int .i64 err])∧Below w.heap.size w w':=by
 refine calls_sym Tryz.func19 rfl (by kernel_rfl) fun T hK=>?_
 replace hK:Kn T _ [(0,.agg #[.int .i64 E,.int .i64 F])]:=hK
 have hS:=Fb.begin w
 have hG:GsAt [] w:=trivial
 refine wq hS hG hK (fun p1=>[.n 1 #[.int .i64 E,.int .i64 F] 23,.v 2 (.int .i64 0),.v 3 (.int .i64 0)]) (fun p1=>[(1,pT (p1 0).N 0),(2,.int .i64 0),(3,.int .i64 0)]) (fun p1=>?_) (fun p1 W1 T hF hK=>?_)
 ·refine okn ?_
  iterate 2 refine okv ?_
  exact ok_nil
 replace hS:=SymF.fc hS hF [1000] [⟨(p1 0).N,#[.int .i64 E,.int .i64 F],23,true⟩]
 replace hG:=hF.gx
 clear hF
 refine wp_seq ?_
 refine wq hS hG hK (fun p2=>[.l 7 (.agg #[.int .i64 E,.int .i64 F]) 0 0,.c (some 8) (cV (.int .i64 err)),.v 4 (.int .i64 err)]) (fun p2=>[(1,pT (p1 0).N 0),(2,.int .i64 0),(3,.int .i64 0),(4,.int .i64 err)]) (fun p2=>?_) (fun p2 W2 T hF hK=>?_)
 ·refine okl ?_
  refine okc (fun W cx=>as_v (unhide HK _)) ?_
  refine okv ?_
  exact ok_nil
 obtain ⟨hS,hG⟩:=SymF.fg hS hF
 clear hF
 refine wq hS hG hK (fun p3=>[.v 9 (.int .i64 err),.v 10 (.bool true)]) (fun p3=>[(1,pT (p1 0).N 0),(2,.int .i64 0),(3,.int .i64 0),(4,.int .i64 err),(10,.bool true)]) (fun p3=>?_) (fun p3 W3 T hF hK=>?_)
 ·refine okv ?_
  refine okvb (bne_iff_ne.2 (show err≠0 by omega)) ?_
  exact ok_nil
 obtain ⟨hS,hG⟩:=SymF.fg hS hF
 clear hF
 refine wp_cond_true (hK.ew 10) ?_
 refine wq hS hG hK (fun p4=>[.v 11 (.int .i64 err),.v 2 (.int .i64 0),.v 3 (.int .i64 err)]) (fun p4=>[(1,pT (p1 0).N 0),(2,.int .i64 0),(3,.int .i64 err),(10,.bool true)]) (fun p4=>?_) (fun p4 W4 T hF hK=>?_)
 ·iterate 3 refine okv ?_
  exact ok_nil
 obtain ⟨hS,hG⟩:=SymF.fg hS hF
 clear hF
 refine wp_ret ?_
 refine then_r ?_
 exact sym_end hS hK (.tuple #[.int .i64 0,.int .i64 err]) [] [] (by kernel_rfl) (by kernel_rfl) ⟨rfl,hS.fr⟩
theorem den_ok (w:World) (E F q tw:Nat) (pw:Nat→Nat) (hF:F≤52) (hp0:pw 0 = 1) (hps:∀ j,j < q→pw (j+1) = pw j * 10) (hpl:∀ j,j < q→pw j≤tw) (hpq:tw < pw q) (htw:tw < 1000000000000000000) (hq:q≤1000) (hsh:IntKind.u64.wrap (1 * 2 ^ min ((F:Int)+1:Int).toNat 64) = (tw:Int)) (HK:Hid (∀ W:World,Calls Tryz.prog 45 #[.agg #[.int .i64 (E:Int),.int .i64 (F:Int)]] W fun e W'=>e = .returned (.int .i64 0)∧Below W.heap.size W W')) :
  Calls Tryz.prog 19 #[.agg #[.int .i64 (E:Int),.int .i64 (F:Int)]] w fun en w'=>en = .returned (.tuple #[.int .i64 (((q - 0:Nat):Int)+1),.int .i64 0])∧Below w.heap.size w w':=by
 obtain ⟨k,hkz⟩:∃ k,k = q:=⟨_,rfl⟩
 have hkn:k≤q:=by omega
 refine calls_sym Tryz.func19 rfl (by kernel_rfl) fun T hK=>?_
 replace hK:Kn T _ [(0,.agg #[.int .i64 (E:Int),.int .i64 (F:Int)])]:=hK
 have hS:=Fb.begin w
 have hG:GsAt [] w:=trivial
 refine wq hS hG hK (fun p1=>[.n 1 #[.int .i64 (E:Int),.int .i64 (F:Int)] 23,.v 2 (.int .i64 0),.v 3 (.int .i64 0)]) (fun p1=>[(1,pT (p1 0).N 0),(2,.int .i64 0),(3,.int .i64 0)]) (fun p1=>?_) (fun p1 W1 T hF hJ=>?_)
 ·refine okn ?_
  iterate 2 refine okv ?_
  exact ok_nil
 replace hS:=SymF.fc hS hF [1000] [⟨(p1 0).N,#[.int .i64 (E:Int),.int .i64 (F:Int)],23,true⟩]
 replace hG:=hF.gx
 clear hF hK
 have hK:=hJ
 clear hJ
 refine wp_seq ?_
 refine wq hS hG hK (fun p2=>[.l 7 (.agg #[.int .i64 (E:Int),.int .i64 (F:Int)]) 0 0,.c (some 8) (cV (.int .i64 0)),.v 4 (.int .i64 0)]) (fun p2=>[(1,pT (p1 0).N 0),(2,.int .i64 0),(3,.int .i64 0),(4,.int .i64 0)]) (fun p2=>?_) (fun p2 W2 T hF hJ=>?_)
 ·refine okl ?_
  refine okc (fun W cx=>as_v (unhide HK _)) ?_
  refine okv ?_
  exact ok_nil
 replace hS:=SymF.fd hS hF
 replace hG:=hF.gx
 clear hF hK
 have hK:=hJ
 clear hJ
 refine wq hS hG hK (fun p3=>[.v 9 (.int .i64 0),.v 10 (.bool false)]) (fun p3=>[(1,pT (p1 0).N 0),(2,.int .i64 0),(3,.int .i64 0),(4,.int .i64 0),(10,.bool false)]) (fun p3=>?_) (fun p3 W3 T hF hJ=>?_)
 ·iterate 2 refine okv ?_
  exact ok_nil
 replace hS:=SymF.fd hS hF
 replace hG:=hF.gx
 clear hF hK
 have hK:=hJ
 clear hJ
 refine wp_cond_false (hK.ew 10) (wp_skip (then_n ?_))
 refine wq hS hG hK (fun p4=>[.v 5 (.int .i64 1)]) (fun p4=>[(1,pT (p1 0).N 0),(2,.int .i64 0),(3,.int .i64 0),(4,.int .i64 0),(5,.int .i64 1),(10,.bool false)]) (fun p4=>?_) (fun p4 W4 T hF hJ=>?_)
 ·refine okv ?_
  exact ok_nil
 replace hS:=SymF.fd hS hF
 replace hG:=hF.gx
 clear hF hK
 have hK:=hJ
 clear hJ
 refine wp_seq ?_
 refine wq hS hG hK (fun p5=>[.v 6 (.int .u64 1)]) (fun p5=>[(1,pT (p1 0).N 0),(2,.int .i64 0),(3,.int .i64 0),(4,.int .i64 0),(5,.int .i64 1),(6,.int .u64 1),(10,.bool false)]) (fun p5=>?_) (fun p5 W5 T hF hJ=>?_)
 ·refine okv ?_
  exact ok_nil
 replace hS:=SymF.fd hS hF
 replace hG:=hF.gx
 clear hF hK
 have hK:=hJ
 clear hJ
 have z5:=hS.fr.size
 refine wp_block ?_
 replace hK:Kn T _ [(1,pT (p1 0).N 0),(5,.int .i64 1),(6,.int .u64 1)]:=kn_out (ds:=[]) hK rfl rfl _ (by kernel_rfl) (by kernel_rfl)
 have h5:Value.int .i64 1 = .int .i64 (((q - k:Nat):Int)+1):=by rw [hkz,Nat.sub_self]; rfl
 have h6:Value.int .u64 1 = .int .u64 ((pw (q - k):Nat):Int):=by rw [hkz,Nat.sub_self,hp0]; rfl
 rw [h5,h6] at hK
 clear h5 h6 hkz
 refine wp_loop_rounds (k+1) ?_
 clear z5
 induction k generalizing T W5 with
 | succ k ih=>
  have z5:=hS.fr.size
  have hj:=hps (q - (k+1)) (by omega)
  have hj1:q - (k+1)+1 = q - k:=by omega
  rw [hj1] at hj
  have hb1:=hpl (q - (k+1)) (by omega)
  refine rounds_s (wp_seq ?_)
  refine wq hS hG hK (fun p6=>[.v 12 (.int .u64 ((pw (q - (k+1)):Nat):Int)),.v 13 (pT (p1 0).N 1),.l 14 (.int .i64 (F:Int)) 0 1,.v 15 (.int .i64 ((F:Int)+1)),.v 16 (.int .u64 (tw:Int)),.v 17 (.bool true)]) (fun p6=>[(1,pT (p1 0).N 0),(5,.int .i64 (((q - (k+1):Nat):Int)+1)),(6,.int .u64 ((pw (q - (k+1)):Nat):Int)),(17,.bool true)]) (fun p6=>?_) (fun p6 W6 T hF hJ=>?_)
  ·iterate 2 refine okv ?_
   refine okl ?_
   refine okvi (wr64 (x:=(F:Int)+1) (by omega) (by omega)) ?_
   refine okvi (hsh) ?_
   refine okvb (decide_eq_true (show ((pw (q - (k+1)):Nat):Int)≤(tw:Int) by omega)) ?_
   exact ok_nil
  replace hS:=SymF.fc hS hF [0] [⟨(p1 0).N,#[.int .i64 (E:Int),.int .i64 (F:Int)],23,true⟩]
  replace hG:=hF.gx
  clear hF hK
  have hK:=hJ
  clear hJ
  refine wp_cond_true (hK.ew 17) (wp_skip ?_)
  refine then_n (wp_seq (wp_block ?_))
  refine wg hS hG hK (fun p7=>[.v 20 (.int .i64 (((q - (k+1):Nat):Int)+1)),.v 21 (.int .i64 (((q - k:Nat):Int)+1)),.v 5 (.int .i64 (((q - k:Nat):Int)+1))]) (fun p7=>[(1,pT (p1 0).N 0),(5,.int .i64 (((q - k:Nat):Int)+1)),(6,.int .u64 ((pw (q - (k+1)):Nat):Int)),(17,.bool true)]) (fun p7=>?_) (fun p7 W7 T hF hJ=>?_)
  ·refine okv ?_
   refine okvi ((wr64 (x:=(((q - (k+1):Nat):Int)+1)+1) (by omega) (by omega)).trans (by omega)) ?_
   refine okv ?_
   exact ok_nil
  replace hS:=SymF.fd hS hF
  replace hG:=hF.gx
  clear hF hK
  have hK:=hJ
  clear hJ
  refine inb_n (then_n ?_)
  refine wg hS hG hK (fun p8=>[.v 18 (.int .u64 ((pw (q - (k+1)):Nat):Int)),.v 19 (.int .u64 ((pw (q - k):Nat):Int)),.v 6 (.int .u64 ((pw (q - k):Nat):Int))]) (fun p8=>[(1,pT (p1 0).N 0),(5,.int .i64 (((q - k:Nat):Int)+1)),(6,.int .u64 ((pw (q - k):Nat):Int)),(17,.bool true)]) (fun p8=>?_) (fun p8 W8 T hF hJ=>?_)
  ·refine okv ?_
   refine okvi ((show IntKind.u64.wrap (((pw (q - (k+1)):Nat):Int) * 10) = ((pw (q - (k+1)):Nat):Int) * 10 by rw [IntKind.wrap_u64]; omega).trans (by omega)) ?_
   refine okv ?_
   exact ok_nil
  replace hS:=SymF.fd hS hF
  replace hG:=hF.gx
  clear hF hK
  have hK:=hJ
  clear hJ
  refine then_n ?_
  replace hK:Kn T _ [(1,pT (p1 0).N 0),(5,.int .i64 (((q - k:Nat):Int)+1)),(6,.int .u64 ((pw (q - k):Nat):Int))]:=kn_out (ds:=[]) hK rfl rfl _ (by kernel_rfl) (by kernel_rfl)
  refine ih ?_ _ _ ?_ ?_ ?_ <;> first|assumption|omega
 | zero=>
  have z5:=hS.fr.size
  have hz0:q - 0 = q:=by omega
  rw [← hz0] at hpq
  refine rounds_s (wp_seq ?_)
  refine wq hS hG hK (fun p9=>[.v 12 (.int .u64 ((pw (q - 0):Nat):Int)),.v 13 (pT (p1 0).N 1),.l 14 (.int .i64 (F:Int)) 0 1,.v 15 (.int .i64 ((F:Int)+1)),.v 16 (.int .u64 (tw:Int)),.v 17 (.bool false)]) (fun p9=>[(1,pT (p1 0).N 0),(5,.int .i64 (((q - 0:Nat):Int)+1)),(6,.int .u64 ((pw (q - 0):Nat):Int)),(17,.bool false)]) (fun p9=>?_) (fun p9 W9 T hF hJ=>?_)
  ·iterate 2 refine okv ?_
   refine okl ?_
   refine okvi (wr64 (x:=(F:Int)+1) (by omega) (by omega)) ?_
   refine okvi (hsh) ?_
   refine okvb (decide_eq_false (show ¬ ((pw (q - 0):Nat):Int)≤(tw:Int) by omega)) ?_
   exact ok_nil
  replace hS:=SymF.fc hS hF [0] [⟨(p1 0).N,#[.int .i64 (E:Int),.int .i64 (F:Int)],23,true⟩]
  replace hG:=hF.gx
  clear hF hK
  have hK:=hJ
  clear hJ
  refine wp_cond_false (hK.ew 17) (wp_exit ?_)
  refine then_x (then_x ?_)
  refine inb_x (then_n ?_)
  refine wq hS hG hK (fun p10=>[.v 22 (.int .i64 (((q - 0:Nat):Int)+1)),.v 2 (.int .i64 (((q - 0:Nat):Int)+1)),.v 3 (.int .i64 0)]) (fun p10=>[(2,.int .i64 (((q - 0:Nat):Int)+1)),(3,.int .i64 0),(5,.int .i64 (((q - 0:Nat):Int)+1)),(6,.int .u64 ((pw (q - 0):Nat):Int)),(17,.bool false)]) (fun p10=>?_) (fun p10 W10 T hF hJ=>?_)
  ·iterate 3 refine okv ?_
   exact ok_nil
  replace hS:=SymF.fc hS hF [] []
  replace hG:=hF.gx
  clear hF hK
  have hK:=hJ
  clear hJ
  refine wp_ret ?_
  exact sym_end hS hK (.tuple #[.int .i64 (((q - 0:Nat):Int)+1),.int .i64 0]) [] [] (by kernel_rfl) (by kernel_rfl) ⟨rfl,hS.fr⟩
theorem dback_is (w:World) (E F rb fl:Int) (va da:Nat) (sa g:Bool) (s3:ByteArray) (x3:Int) (ht:Tb w) (HQ:Hid (∀ W:World,Calls Tryz.prog 12 #[.agg #[.bool g,.string s3,.int .i64 x3]] W fun e W'=>(∃ A N C A' N' C',e = .returned (.tuple #[.agg #[.bool sa,.slice A N C,.slice A' N' C'],.int .i64 0])∧Mine W' W.heap.size A N C va∧Mine W' W.heap.size A' N' C' da)∧Below W.heap.size W W')) (HR:Hid (∀ (W:World) (a:Option Addr) (n c:Nat) (b:Option Addr) (k l:Nat),Tb W→Num W a n va→Num W b k da→Calls Tryz.prog 50 #[.agg #[.int .i64 E,.int .i64 F],.agg #[.bool sa,.slice a n c,.slice b k l],.bool g,.int .u8 0] W fun e W'=>e = .returned (.tuple #[.int .u64 rb,.int .u8 fl,.int .i64 0])∧Below W.heap.size W W')) :
  Calls Tryz.prog 21 #[.agg #[.int .i64 E,.int .i64 F],.agg #[.bool g,.string s3,.int .i64 x3]] w fun en w'=>en = .returned (.tuple #[.int .u64 rb,.bool true])∧Below w.heap.size w w':=by
 refine calls_sym Tryz.func21 rfl (by kernel_rfl) fun T hK=>?_
 replace hK:Kn T _ [(0,.agg #[.int .i64 E,.int .i64 F]),(1,.agg #[.bool g,.string s3,.int .i64 x3])]:=hK
 have hS:=Fb.begin w
 have hG:GsAt [] w:=trivial
 refine wq hS hG hK (fun p1=>[.n 2 #[.int .i64 E,.int .i64 F] 23,.n 3 #[.bool g,.string s3,.int .i64 x3] 35,.v 4 (.int .u64 0),.v 5 (.bool false)]) (fun p1=>[(2,pT (p1 0).N 0),(3,pT (p1 1).N 0),(4,.int .u64 0),(5,.bool false)]) (fun p1=>?_) (fun p1 W1 T hF hK=>?_)
 ·iterate 2 refine okn ?_
  iterate 2 refine okv ?_
  exact ok_nil
 replace hS:=SymF.fc hS hF [1000,1001] [⟨(p1 0).N,#[.int .i64 E,.int .i64 F],23,true⟩,⟨(p1 1).N,#[.bool g,.string s3,.int .i64 x3],35,true⟩]
 replace hG:=hF.gx
 clear hF
 refine wq hS hG hK (fun p2=>[.l 12 (.agg #[.bool g,.string s3,.int .i64 x3]) 1 0,.c (some 13) (cH W1.heap.size va da fun x9 y9=>.tuple #[.agg #[.bool sa,x9,y9],.int .i64 0]),.v 11 (.tuple #[.agg #[.bool sa,.slice (p2 1).A (p2 1).N (p2 1).C,.slice (p2 1).A' (p2 1).N' (p2 1).C'],.int .i64 0]),.v 14 (.agg #[.bool sa,.slice (p2 1).A (p2 1).N (p2 1).C,.slice (p2 1).A' (p2 1).N' (p2 1).C']),.v 15 (.int .i64 0),.n 6 #[.bool false,.slice none 0 0,.slice none 0 0] 41,.p 1005 0 [.bool sa,.slice (p2 1).A (p2 1).N (p2 1).C,.slice (p2 1).A' (p2 1).N' (p2 1).C'],.v 7 (.int .i64 0)]) (fun p2=>[(2,pT (p1 0).N 0),(3,pT (p1 1).N 0),(4,.int .u64 0),(5,.bool false),(6,pT (p2 5).N 0),(7,.int .i64 0)]) (fun p2=>?_) (fun p2 W2 T hF hK=>?_)
 ·refine okl ?_
  refine okc (fun W cx=>as_h cx.hb (unhide HQ _)) ?_
  iterate 3 refine okv ?_
  refine okn ?_
  refine okp ?_
  refine okv ?_
  exact ok_nil
 replace hS:=SymF.fc hS hF [0,1,1005] [⟨(p1 0).N,#[.int .i64 E,.int .i64 F],23,true⟩,⟨(p1 1).N,#[.bool g,.string s3,.int .i64 x3],35,true⟩,⟨(p2 5).N,#[.bool sa,.slice (p2 1).A (p2 1).N (p2 1).C,.slice (p2 1).A' (p2 1).N' (p2 1).C'],41,true⟩]
 replace hG:GsAt (gM W1.heap.size (p2 1).A (p2 1).N (p2 1).C va :: gM W1.heap.size (p2 1).A' (p2 1).N' (p2 1).C' da :: _) W2:=⟨And.left (hF.fx 1),And.right (hF.fx 1),hF.gx⟩
 clear hF
 refine wq hS hG hK (fun p3=>[.l 17 (.agg #[.int .i64 E,.int .i64 F]) 0 0,.l 18 (.agg #[.bool sa,.slice (p2 1).A (p2 1).N (p2 1).C,.slice (p2 1).A' (p2 1).N' (p2 1).C']) 2 0,.v 19 (pT (p1 1).N 0),.l 20 (.bool g) 1 0,.c (some 21) (cV (.tuple #[.int .u64 rb,.int .u8 fl,.int .i64 0])),.v 16 (.tuple #[.int .u64 rb,.int .u8 fl,.int .i64 0]),.v 22 (.int .u64 rb),.v 23 (.int .u8 fl),.v 24 (.int .i64 0),.v 8 (.int .u64 rb),.v 9 (.int .u8 fl),.v 10 (.int .i64 0)]) (fun p3=>[(4,.int .u64 0),(5,.bool false),(7,.int .i64 0),(8,.int .u64 rb),(10,.int .i64 0)]) (fun p3=>?_) (fun p3 W3 T hF hK=>?_)
 ·iterate 2 refine okl ?_
  refine okv ?_
  refine okl ?_
  refine okc (fun W cx=>as_v (unhide HR _ _ _ (p2 1).C _ _ (p2 1).C' (ht.kept cx.fr) (Mine.num cx.G.1) (Mine.num cx.G.2.1))) ?_
  iterate 7 refine okv ?_
  exact ok_nil
 replace hS:=SymF.fc hS hF [] []
 replace hG:=hF.gx
 clear hF
 refine wq hS hG hK (fun p4=>[.v 25 (.int .u64 rb),.v 26 (.int .i64 0),.v 27 (.bool true),.v 28 (.bool true),.v 29 (.int .i64 0),.v 30 (.bool true),.v 31 (.bool true),.v 4 (.int .u64 rb),.v 5 (.bool true)]) (fun p4=>[(4,.int .u64 rb),(5,.bool true)]) (fun p4=>?_) (fun p4 W4 T hF hK=>?_)
 ·iterate 9 refine okv ?_
  exact ok_nil
 obtain ⟨hS,hG⟩:=SymF.fg hS hF
 clear hF
 refine wp_ret ?_
 exact sym_end hS hK (.tuple #[.int .u64 rb,.bool true]) [] [] (by kernel_rfl) (by kernel_rfl) ⟨rfl,hS.fr⟩
theorem denl_1 (w:World) (E F b:Int) (mo err cl er2:Int) (he:err≠0) (ht:Tb w) (htp:Tpw w) (HL:Hid (∀ W:World,Tb W→Tpw W→Calls Tryz.prog 7 #[] W fun e W'=>e = .returned (.bool true)∧Below W.heap.size W W')) (HE:Hid (∀ W:World,Calls Tryz.prog 19 #[.agg #[.int .i64 E,.int .i64 F]] W fun e W'=>e = .returned (.tuple #[.int .i64 0,.int .i64 err])∧Below W.heap.size W W')) (HC:Hid (∀ W:World,Calls Tryz.prog 20 #[.agg #[.int .i64 E,.int .i64 F],.int .u64 b] W fun e W'=>e = .returned (.tuple #[.int .u8 cl,.int .i64 er2])∧Below W.heap.size W W')) :
  Calls Tryz.prog 5 #[.agg #[.int .i64 E,.int .i64 F],.int .u64 b,.int .i64 mo] w fun en w'=>en = .returned (.bool true)∧Below w.heap.size w w':=by
 refine calls_sym Tryz.func5 rfl (by kernel_rfl) fun T hK=>?_
 replace hK:Kn T _ [(0,.agg #[.int .i64 E,.int .i64 F]),(1,.int .u64 b),(2,.int .i64 mo)]:=hK
 have hS:=Fb.begin w
 have hG:GsAt [] w:=trivial
 refine wq hS hG hK (fun p1=>[.n 3 #[.int .i64 E,.int .i64 F] 23,.v 6 (.bool false)]) (fun p1=>[(1,.int .u64 b),(2,.int .i64 mo),(3,pT (p1 0).N 0),(6,.bool false)]) (fun p1=>?_) (fun p1 W1 T hF hK=>?_)
 ·refine okn ?_
  refine okv ?_
  exact ok_nil
 replace hS:=SymF.fc hS hF [1000] [⟨(p1 0).N,#[.int .i64 E,.int .i64 F],23,true⟩]
 replace hG:=hF.gx
 clear hF
 refine wq hS hG hK (fun p2=>[.c (some 22) (cV (.bool true)),.v 7 (.bool true)]) (fun p2=>[(1,.int .u64 b),(2,.int .i64 mo),(3,pT (p1 0).N 0),(6,.bool false),(7,.bool true)]) (fun p2=>?_) (fun p2 W2 T hF hK=>?_)
 ·refine okc (fun W cx=>as_v (unhide HL _ (ht.kept cx.fr) (htp.kept cx.fr))) ?_
  refine okv ?_
  exact ok_nil
 obtain ⟨hS,hG⟩:=SymF.fg hS hF
 clear hF
 refine wq hS hG hK (fun p3=>[.l 24 (.agg #[.int .i64 E,.int .i64 F]) 0 0,.c (some 25) (cV (.tuple #[.int .i64 0,.int .i64 err])),.v 23 (.tuple #[.int .i64 0,.int .i64 err]),.v 26 (.int .i64 0),.v 27 (.int .i64 err),.v 8 (.int .i64 0),.v 9 (.int .i64 err)]) (fun p3=>[(1,.int .u64 b),(2,.int .i64 mo),(3,pT (p1 0).N 0),(6,.bool false),(7,.bool true),(8,.int .i64 0),(9,.int .i64 err)]) (fun p3=>?_) (fun p3 W3 T hF hK=>?_)
 ·refine okl ?_
  refine okc (fun W cx=>as_v (unhide HE _)) ?_
  iterate 5 refine okv ?_
  exact ok_nil
 obtain ⟨hS,hG⟩:=SymF.fg hS hF
 clear hF
 refine wq hS hG hK (fun p4=>[.l 29 (.agg #[.int .i64 E,.int .i64 F]) 0 0,.v 30 (.int .u64 b),.c (some 31) (cV (.tuple #[.int .u8 cl,.int .i64 er2])),.v 28 (.tuple #[.int .u8 cl,.int .i64 er2]),.v 32 (.int .u8 cl),.v 33 (.int .i64 er2),.v 10 (.int .u8 cl),.v 11 (.int .i64 er2)]) (fun p4=>[(1,.int .u64 b),(2,.int .i64 mo),(3,pT (p1 0).N 0),(6,.bool false),(7,.bool true),(8,.int .i64 0),(9,.int .i64 err),(10,.int .u8 cl),(11,.int .i64 er2)]) (fun p4=>?_) (fun p4 W4 T hF hK=>?_)
 ·refine okl ?_
  refine okv ?_
  refine okc (fun W cx=>as_v (unhide HC _)) ?_
  iterate 5 refine okv ?_
  exact ok_nil
 obtain ⟨hS,hG⟩:=SymF.fg hS hF
 clear hF
 refine wp_seq ?_
 refine wq hS hG hK (fun p5=>[.v 34 (.int .i64 err),.v 35 (.bool true),.v 36 (.bool true),.k (some 37),.k (some 38),.v 39 (.bool true),.v 40 (.bool true),.k (some 41),.k (some 42),.v 43 (.bool true)]) (fun p5=>[(1,.int .u64 b),(2,.int .i64 mo),(3,pT (p1 0).N 0),(6,.bool false),(7,.bool true),(8,.int .i64 0),(43,.bool true)]) (fun p5=>?_) (fun p5 W5 T hF hK=>?_)
 ·refine okv ?_
  refine okvb (bne_iff_ne.2 (show err≠0 by omega)) ?_
  refine okv ?_
  iterate 2 refine okk ?_
  iterate 2 refine okv ?_
  iterate 2 refine okk ?_
  refine okv ?_
  exact ok_nil
 obtain ⟨hS,hG⟩:=SymF.fg hS hF
 clear hF
 refine wp_cond_true (hK.ew 43) ?_
 refine wq hS hG hK (fun p6=>[.v 44 (.bool true),.v 6 (.bool true)]) (fun p6=>[(1,.int .u64 b),(2,.int .i64 mo),(3,pT (p1 0).N 0),(6,.bool true),(7,.bool true),(8,.int .i64 0),(43,.bool true)]) (fun p6=>?_) (fun p6 W6 T hF hK=>?_)
 ·iterate 2 refine okv ?_
  exact ok_nil
 obtain ⟨hS,hG⟩:=SymF.fg hS hF
 clear hF
 refine wp_ret ?_
 refine then_r ?_
 exact sym_end hS hK (.bool true) [] [] (by kernel_rfl) (by kernel_rfl) ⟨rfl,hS.fr⟩
theorem denl_2 (w:World) (E F b:Int) (mo n err cl:Int) (he:err≠0) (ht:Tb w) (htp:Tpw w) (HL:Hid (∀ W:World,Tb W→Tpw W→Calls Tryz.prog 7 #[] W fun e W'=>e = .returned (.bool true)∧Below W.heap.size W W')) (HE:Hid (∀ W:World,Calls Tryz.prog 19 #[.agg #[.int .i64 E,.int .i64 F]] W fun e W'=>e = .returned (.tuple #[.int .i64 n,.int .i64 0])∧Below W.heap.size W W')) (HC:Hid (∀ W:World,Calls Tryz.prog 20 #[.agg #[.int .i64 E,.int .i64 F],.int .u64 b] W fun e W'=>e = .returned (.tuple #[.int .u8 cl,.int .i64 err])∧Below W.heap.size W W')) :
  Calls Tryz.prog 5 #[.agg #[.int .i64 E,.int .i64 F],.int .u64 b,.int .i64 mo] w fun en w'=>en = .returned (.bool true)∧Below w.heap.size w w':=by
 refine calls_sym Tryz.func5 rfl (by kernel_rfl) fun T hK=>?_
 replace hK:Kn T _ [(0,.agg #[.int .i64 E,.int .i64 F]),(1,.int .u64 b),(2,.int .i64 mo)]:=hK
 have hS:=Fb.begin w
 have hG:GsAt [] w:=trivial
 refine wq hS hG hK (fun p1=>[.n 3 #[.int .i64 E,.int .i64 F] 23,.v 6 (.bool false)]) (fun p1=>[(1,.int .u64 b),(2,.int .i64 mo),(3,pT (p1 0).N 0),(6,.bool false)]) (fun p1=>?_) (fun p1 W1 T hF hK=>?_)
 ·refine okn ?_
  refine okv ?_
  exact ok_nil
 replace hS:=SymF.fc hS hF [1000] [⟨(p1 0).N,#[.int .i64 E,.int .i64 F],23,true⟩]
 replace hG:=hF.gx
 clear hF
 refine wq hS hG hK (fun p2=>[.c (some 22) (cV (.bool true)),.v 7 (.bool true)]) (fun p2=>[(1,.int .u64 b),(2,.int .i64 mo),(3,pT (p1 0).N 0),(6,.bool false),(7,.bool true)]) (fun p2=>?_) (fun p2 W2 T hF hK=>?_)
 ·refine okc (fun W cx=>as_v (unhide HL _ (ht.kept cx.fr) (htp.kept cx.fr))) ?_
  refine okv ?_
  exact ok_nil
 obtain ⟨hS,hG⟩:=SymF.fg hS hF
 clear hF
 refine wq hS hG hK (fun p3=>[.l 24 (.agg #[.int .i64 E,.int .i64 F]) 0 0,.c (some 25) (cV (.tuple #[.int .i64 n,.int .i64 0])),.v 23 (.tuple #[.int .i64 n,.int .i64 0]),.v 26 (.int .i64 n),.v 27 (.int .i64 0),.v 8 (.int .i64 n),.v 9 (.int .i64 0)]) (fun p3=>[(1,.int .u64 b),(2,.int .i64 mo),(3,pT (p1 0).N 0),(6,.bool false),(7,.bool true),(8,.int .i64 n),(9,.int .i64 0)]) (fun p3=>?_) (fun p3 W3 T hF hK=>?_)
 ·refine okl ?_
  refine okc (fun W cx=>as_v (unhide HE _)) ?_
  iterate 5 refine okv ?_
  exact ok_nil
 obtain ⟨hS,hG⟩:=SymF.fg hS hF
 clear hF
 refine wq hS hG hK (fun p4=>[.l 29 (.agg #[.int .i64 E,.int .i64 F]) 0 0,.v 30 (.int .u64 b),.c (some 31) (cV (.tuple #[.int .u8 cl,.int .i64 err])),.v 28 (.tuple #[.int .u8 cl,.int .i64 err]),.v 32 (.int .u8 cl),.v 33 (.int .i64 err),.v 10 (.int .u8 cl),.v 11 (.int .i64 err)]) (fun p4=>[(1,.int .u64 b),(2,.int .i64 mo),(3,pT (p1 0).N 0),(6,.bool false),(7,.bool true),(8,.int .i64 n),(9,.int .i64 0),(10,.int .u8 cl),(11,.int .i64 err)]) (fun p4=>?_) (fun p4 W4 T hF hK=>?_)
 ·refine okl ?_
  refine okv ?_
  refine okc (fun W cx=>as_v (unhide HC _)) ?_
  iterate 5 refine okv ?_
  exact ok_nil
 obtain ⟨hS,hG⟩:=SymF.fg hS hF
 clear hF
 refine wp_seq ?_
 refine wq hS hG hK (fun p5=>[.v 34 (.int .i64 0),.v 35 (.bool false),.v 36 (.bool false),.v 37 (.int .i64 err),.v 38 (.bool true),.v 39 (.bool true),.v 40 (.bool true),.k (some 41),.k (some 42),.v 43 (.bool true)]) (fun p5=>[(1,.int .u64 b),(2,.int .i64 mo),(3,pT (p1 0).N 0),(6,.bool false),(7,.bool true),(8,.int .i64 n),(43,.bool true)]) (fun p5=>?_) (fun p5 W5 T hF hK=>?_)
 ·iterate 4 refine okv ?_
  refine okvb (bne_iff_ne.2 (show err≠0 by omega)) ?_
  iterate 2 refine okv ?_
  iterate 2 refine okk ?_
  refine okv ?_
  exact ok_nil
 obtain ⟨hS,hG⟩:=SymF.fg hS hF
 clear hF
 refine wp_cond_true (hK.ew 43) ?_
 refine wq hS hG hK (fun p6=>[.v 44 (.bool true),.v 6 (.bool true)]) (fun p6=>[(1,.int .u64 b),(2,.int .i64 mo),(3,pT (p1 0).N 0),(6,.bool true),(7,.bool true),(8,.int .i64 n),(43,.bool true)]) (fun p6=>?_) (fun p6 W6 T hF hK=>?_)
 ·iterate 2 refine okv ?_
  exact ok_nil
 obtain ⟨hS,hG⟩:=SymF.fg hS hF
 clear hF
 refine wp_ret ?_
 refine then_r ?_
 exact sym_end hS hK (.bool true) [] [] (by kernel_rfl) (by kernel_rfl) ⟨rfl,hS.fr⟩
theorem denl_3 (w:World) (E F b:Int) (mo n cl:Int) (hc:4≤cl) (ht:Tb w) (htp:Tpw w) (HL:Hid (∀ W:World,Tb W→Tpw W→Calls Tryz.prog 7 #[] W fun e W'=>e = .returned (.bool true)∧Below W.heap.size W W')) (HE:Hid (∀ W:World,Calls Tryz.prog 19 #[.agg #[.int .i64 E,.int .i64 F]] W fun e W'=>e = .returned (.tuple #[.int .i64 n,.int .i64 0])∧Below W.heap.size W W')) (HC:Hid (∀ W:World,Calls Tryz.prog 20 #[.agg #[.int .i64 E,.int .i64 F],.int .u64 b] W fun e W'=>e = .returned (.tuple #[.int .u8 cl,.int .i64 0])∧Below W.heap.size W W')) :
  Calls Tryz.prog 5 #[.agg #[.int .i64 E,.int .i64 F],.int .u64 b,.int .i64 mo] w fun en w'=>en = .returned (.bool true)∧Below w.heap.size w w':=by
 refine calls_sym Tryz.func5 rfl (by kernel_rfl) fun T hK=>?_
 replace hK:Kn T _ [(0,.agg #[.int .i64 E,.int .i64 F]),(1,.int .u64 b),(2,.int .i64 mo)]:=hK
 have hS:=Fb.begin w
 have hG:GsAt [] w:=trivial
 refine wq hS hG hK (fun p1=>[.n 3 #[.int .i64 E,.int .i64 F] 23,.v 6 (.bool false)]) (fun p1=>[(1,.int .u64 b),(2,.int .i64 mo),(3,pT (p1 0).N 0),(6,.bool false)]) (fun p1=>?_) (fun p1 W1 T hF hK=>?_)
 ·refine okn ?_
  refine okv ?_
  exact ok_nil
 replace hS:=SymF.fc hS hF [1000] [⟨(p1 0).N,#[.int .i64 E,.int .i64 F],23,true⟩]
 replace hG:=hF.gx
 clear hF
 refine wq hS hG hK (fun p2=>[.c (some 22) (cV (.bool true)),.v 7 (.bool true)]) (fun p2=>[(1,.int .u64 b),(2,.int .i64 mo),(3,pT (p1 0).N 0),(6,.bool false),(7,.bool true)]) (fun p2=>?_) (fun p2 W2 T hF hK=>?_)
 ·refine okc (fun W cx=>as_v (unhide HL _ (ht.kept cx.fr) (htp.kept cx.fr))) ?_
  refine okv ?_
  exact ok_nil
 obtain ⟨hS,hG⟩:=SymF.fg hS hF
 clear hF
 refine wq hS hG hK (fun p3=>[.l 24 (.agg #[.int .i64 E,.int .i64 F]) 0 0,.c (some 25) (cV (.tuple #[.int .i64 n,.int .i64 0])),.v 23 (.tuple #[.int .i64 n,.int .i64 0]),.v 26 (.int .i64 n),.v 27 (.int .i64 0),.v 8 (.int .i64 n),.v 9 (.int .i64 0)]) (fun p3=>[(1,.int .u64 b),(2,.int .i64 mo),(3,pT (p1 0).N 0),(6,.bool false),(7,.bool true),(8,.int .i64 n),(9,.int .i64 0)]) (fun p3=>?_) (fun p3 W3 T hF hK=>?_)
 ·refine okl ?_
  refine okc (fun W cx=>as_v (unhide HE _)) ?_
  iterate 5 refine okv ?_
  exact ok_nil
 obtain ⟨hS,hG⟩:=SymF.fg hS hF
 clear hF
 refine wq hS hG hK (fun p4=>[.l 29 (.agg #[.int .i64 E,.int .i64 F]) 0 0,.v 30 (.int .u64 b),.c (some 31) (cV (.tuple #[.int .u8 cl,.int .i64 0])),.v 28 (.tuple #[.int .u8 cl,.int .i64 0]),.v 32 (.int .u8 cl),.v 33 (.int .i64 0),.v 10 (.int .u8 cl),.v 11 (.int .i64 0)]) (fun p4=>[(1,.int .u64 b),(2,.int .i64 mo),(3,pT (p1 0).N 0),(6,.bool false),(7,.bool true),(8,.int .i64 n),(9,.int .i64 0),(10,.int .u8 cl),(11,.int .i64 0)]) (fun p4=>?_) (fun p4 W4 T hF hK=>?_)
 ·refine okl ?_
  refine okv ?_
  refine okc (fun W cx=>as_v (unhide HC _)) ?_
  iterate 5 refine okv ?_
  exact ok_nil
 obtain ⟨hS,hG⟩:=SymF.fg hS hF
 clear hF
 refine wp_seq ?_
 refine wq hS hG hK (fun p5=>[.v 34 (.int .i64 0),.v 35 (.bool false),.v 36 (.bool false),.v 37 (.int .i64 0),.v 38 (.bool false),.v 39 (.bool false),.v 40 (.bool false),.v 41 (.int .u8 cl),.v 42 (.bool true),.v 43 (.bool true)]) (fun p5=>[(1,.int .u64 b),(2,.int .i64 mo),(3,pT (p1 0).N 0),(6,.bool false),(7,.bool true),(8,.int .i64 n),(43,.bool true)]) (fun p5=>?_) (fun p5 W5 T hF hK=>?_)
 ·iterate 8 refine okv ?_
  refine okvb (decide_eq_true (show cl ≥ 4 by omega)) ?_
  refine okv ?_
  exact ok_nil
 obtain ⟨hS,hG⟩:=SymF.fg hS hF
 clear hF
 refine wp_cond_true (hK.ew 43) ?_
 refine wq hS hG hK (fun p6=>[.v 44 (.bool true),.v 6 (.bool true)]) (fun p6=>[(1,.int .u64 b),(2,.int .i64 mo),(3,pT (p1 0).N 0),(6,.bool true),(7,.bool true),(8,.int .i64 n),(43,.bool true)]) (fun p6=>?_) (fun p6 W6 T hF hK=>?_)
 ·iterate 2 refine okv ?_
  exact ok_nil
 obtain ⟨hS,hG⟩:=SymF.fg hS hF
 clear hF
 refine wp_ret ?_
 refine then_r ?_
 exact sym_end hS hK (.bool true) [] [] (by kernel_rfl) (by kernel_rfl) ⟨rfl,hS.fr⟩
theorem denl_4 (w:World) (E F b mo cl:Int) (n k:Nat) (g4 g5 i4 i5:Bool) (s4 s5:ByteArray) (x4 x5:Int) (hc:cl < 4) (hn:n≤100) (hk:Int.tmod (IntKind.i64.wrap (Int.tmod mo 40+40)) 40 = (k:Int)) (hk2:k < 40) (h4:s4.size≤n) (ht:Tb w) (htp:Tpw w) (HL:Hid (∀ W:World,Tb W→Tpw W→Calls Tryz.prog 7 #[] W fun e W'=>e = .returned (.bool true)∧Below W.heap.size W W')) (HE:Hid (∀ W:World,Calls Tryz.prog 19 #[.agg #[.int .i64 E,.int .i64 F]] W fun e W'=>e = .returned (.tuple #[.int .i64 (n:Int),.int .i64 0])∧Below W.heap.size W W')) (HC:Hid (∀ W:World,Calls Tryz.prog 20 #[.agg #[.int .i64 E,.int .i64 F],.int .u64 b] W fun e W'=>e = .returned (.tuple #[.int .u8 cl,.int .i64 0])∧Below W.heap.size W W')) (H4:Hid (∀ W:World,Tb W→Tpw W→Calls Tryz.prog 15 #[.agg #[.int .i64 E,.int .i64 F],.int .u64 b,.int .i64 (n:Int),.int .u8 0] W fun e W'=>e = .returned (.tuple #[.agg #[.bool g4,.string s4,.int .i64 x4],.bool i4,.int .i64 0])∧Below W.heap.size W W')) (H5:Hid (∀ W:World,Tb W→Tpw W→Calls Tryz.prog 15 #[.agg #[.int .i64 E,.int .i64 F],.int .u64 b,.int .i64 ((n:Int)+(k:Int)),.int .u8 0] W fun e W'=>e = .returned (.tuple #[.agg #[.bool g5,.string s5,.int .i64 x5],.bool i5,.int .i64 0])∧Below W.heap.size W W')) (HB4:Hid (∀ W:World,Tb W→Calls Tryz.prog 21 #[.agg #[.int .i64 E,.int .i64 F],.agg #[.bool g4,.string s4,.int .i64 x4]] W fun e W'=>e = .returned (.tuple #[.int .u64 b,.bool true])∧Below W.heap.size W W')) (HB5:Hid (∀ W:World,Tb W→Calls Tryz.prog 21 #[.agg #[.int .i64 E,.int .i64 F],.agg #[.bool g5,.string s5,.int .i64 x5]] W fun e W'=>e = .returned (.tuple #[.int .u64 b,.bool true])∧Below W.heap.size W W')) :
  Calls Tryz.prog 5 #[.agg #[.int .i64 E,.int .i64 F],.int .u64 b,.int .i64 mo] w fun en w'=>en = .returned (.bool true)∧Below w.heap.size w w':=by
 refine calls_sym Tryz.func5 rfl (by kernel_rfl) fun T hK=>?_
 replace hK:Kn T _ [(0,.agg #[.int .i64 E,.int .i64 F]),(1,.int .u64 b),(2,.int .i64 mo)]:=hK
 have hS:=Fb.begin w
 have hG:GsAt [] w:=trivial
 refine wq hS hG hK (fun p1=>[.n 3 #[.int .i64 E,.int .i64 F] 23,.v 6 (.bool false)]) (fun p1=>[(1,.int .u64 b),(2,.int .i64 mo),(3,pT (p1 0).N 0),(6,.bool false)]) (fun p1=>?_) (fun p1 W1 T hF hK=>?_)
 ·refine okn ?_
  refine okv ?_
  exact ok_nil
 replace hS:=SymF.fc hS hF [1000] [⟨(p1 0).N,#[.int .i64 E,.int .i64 F],23,true⟩]
 replace hG:=hF.gx
 clear hF
 refine wq hS hG hK (fun p2=>[.c (some 22) (cV (.bool true)),.v 7 (.bool true)]) (fun p2=>[(1,.int .u64 b),(2,.int .i64 mo),(3,pT (p1 0).N 0),(6,.bool false),(7,.bool true)]) (fun p2=>?_) (fun p2 W2 T hF hK=>?_)
 ·refine okc (fun W cx=>as_v (unhide HL _ (ht.kept cx.fr) (htp.kept cx.fr))) ?_
  refine okv ?_
  exact ok_nil
 obtain ⟨hS,hG⟩:=SymF.fg hS hF
 clear hF
 refine wq hS hG hK (fun p3=>[.l 24 (.agg #[.int .i64 E,.int .i64 F]) 0 0,.c (some 25) (cV (.tuple #[.int .i64 (n:Int),.int .i64 0])),.v 23 (.tuple #[.int .i64 (n:Int),.int .i64 0]),.v 26 (.int .i64 (n:Int)),.v 27 (.int .i64 0),.v 8 (.int .i64 (n:Int)),.v 9 (.int .i64 0)]) (fun p3=>[(1,.int .u64 b),(2,.int .i64 mo),(3,pT (p1 0).N 0),(6,.bool false),(7,.bool true),(8,.int .i64 (n:Int)),(9,.int .i64 0)]) (fun p3=>?_) (fun p3 W3 T hF hK=>?_)
 ·refine okl ?_
  refine okc (fun W cx=>as_v (unhide HE _)) ?_
  iterate 5 refine okv ?_
  exact ok_nil
 obtain ⟨hS,hG⟩:=SymF.fg hS hF
 clear hF
 refine wq hS hG hK (fun p4=>[.l 29 (.agg #[.int .i64 E,.int .i64 F]) 0 0,.v 30 (.int .u64 b),.c (some 31) (cV (.tuple #[.int .u8 cl,.int .i64 0])),.v 28 (.tuple #[.int .u8 cl,.int .i64 0]),.v 32 (.int .u8 cl),.v 33 (.int .i64 0),.v 10 (.int .u8 cl),.v 11 (.int .i64 0)]) (fun p4=>[(1,.int .u64 b),(2,.int .i64 mo),(3,pT (p1 0).N 0),(6,.bool false),(7,.bool true),(8,.int .i64 (n:Int)),(9,.int .i64 0),(10,.int .u8 cl),(11,.int .i64 0)]) (fun p4=>?_) (fun p4 W4 T hF hK=>?_)
 ·refine okl ?_
  refine okv ?_
  refine okc (fun W cx=>as_v (unhide HC _)) ?_
  iterate 5 refine okv ?_
  exact ok_nil
 obtain ⟨hS,hG⟩:=SymF.fg hS hF
 clear hF
 refine wp_seq ?_
 refine wq hS hG hK (fun p5=>[.v 34 (.int .i64 0),.v 35 (.bool false),.v 36 (.bool false),.v 37 (.int .i64 0),.v 38 (.bool false),.v 39 (.bool false),.v 40 (.bool false),.v 41 (.int .u8 cl),.v 42 (.bool false),.v 43 (.bool false)]) (fun p5=>[(1,.int .u64 b),(2,.int .i64 mo),(3,pT (p1 0).N 0),(6,.bool false),(7,.bool true),(8,.int .i64 (n:Int)),(43,.bool false)]) (fun p5=>?_) (fun p5 W5 T hF hK=>?_)
 ·iterate 8 refine okv ?_
  refine okvb (decide_eq_false (show ¬ cl ≥ 4 by omega)) ?_
  refine okv ?_
  exact ok_nil
 obtain ⟨hS,hG⟩:=SymF.fg hS hF
 clear hF
 refine wp_cond_false (hK.ew 43) (wp_skip (then_n ?_))
 refine wq hS hG hK (fun p6=>[.l 46 (.agg #[.int .i64 E,.int .i64 F]) 0 0,.v 47 (.int .u64 b),.v 48 (.int .i64 (n:Int)),.c (some 49) (cV (.tuple #[.agg #[.bool g4,.string s4,.int .i64 x4],.bool i4,.int .i64 0])),.v 45 (.tuple #[.agg #[.bool g4,.string s4,.int .i64 x4],.bool i4,.int .i64 0]),.v 50 (.agg #[.bool g4,.string s4,.int .i64 x4]),.v 51 (.bool i4),.v 52 (.int .i64 0),.n 12 #[.bool false,.string ⟨#[]⟩,.int .i64 0] 35,.p 1008 0 [.bool g4,.string s4,.int .i64 x4],.v 13 (.bool i4),.v 14 (.int .i64 0)]) (fun p6=>[(1,.int .u64 b),(2,.int .i64 mo),(3,pT (p1 0).N 0),(6,.bool false),(7,.bool true),(8,.int .i64 (n:Int)),(12,pT (p6 8).N 0),(14,.int .i64 0),(43,.bool false)]) (fun p6=>?_) (fun p6 W6 T hF hK=>?_)
 ·refine okl ?_
  iterate 2 refine okv ?_
  refine okc (fun W cx=>as_v (unhide H4 _ (ht.kept cx.fr) (htp.kept cx.fr))) ?_
  iterate 4 refine okv ?_
  refine okn ?_
  refine okp ?_
  iterate 2 refine okv ?_
  exact ok_nil
 replace hS:=SymF.fc hS hF [0,1008] [⟨(p1 0).N,#[.int .i64 E,.int .i64 F],23,true⟩,⟨(p6 8).N,#[.bool g4,.string s4,.int .i64 x4],35,true⟩]
 replace hG:=hF.gx
 clear hF
 refine wq hS hG hK (fun p7=>[.l 54 (.agg #[.int .i64 E,.int .i64 F]) 0 0,.l 55 (.agg #[.bool g4,.string s4,.int .i64 x4]) 1 0,.c (some 56) (cV (.tuple #[.int .u64 b,.bool true])),.v 53 (.tuple #[.int .u64 b,.bool true]),.v 57 (.int .u64 b),.v 58 (.bool true),.v 15 (.int .u64 b),.v 16 (.bool true)]) (fun p7=>[(1,.int .u64 b),(2,.int .i64 mo),(3,pT (p1 0).N 0),(6,.bool false),(7,.bool true),(8,.int .i64 (n:Int)),(12,pT (p6 8).N 0),(14,.int .i64 0),(15,.int .u64 b),(16,.bool true),(43,.bool false)]) (fun p7=>?_) (fun p7 W7 T hF hK=>?_)
 ·iterate 2 refine okl ?_
  refine okc (fun W cx=>as_v (unhide HB4 _ (ht.kept cx.fr))) ?_
  iterate 5 refine okv ?_
  exact ok_nil
 obtain ⟨hS,hG⟩:=SymF.fg hS hF
 clear hF
 refine wq hS hG hK (fun p8=>[.l 60 (.agg #[.int .i64 E,.int .i64 F]) 0 0,.v 61 (.int .u64 b),.v 62 (.int .i64 (n:Int)),.v 63 (.int .i64 mo),.v 64 (.int .i64 (Int.tmod mo 40)),.v 65 (.int .i64 (IntKind.i64.wrap (Int.tmod mo 40+40))),.v 66 (.int .i64 (k:Int)),.v 67 (.int .i64 ((n:Int)+(k:Int))),.c (some 68) (cV (.tuple #[.agg #[.bool g5,.string s5,.int .i64 x5],.bool i5,.int .i64 0])),.v 59 (.tuple #[.agg #[.bool g5,.string s5,.int .i64 x5],.bool i5,.int .i64 0]),.v 69 (.agg #[.bool g5,.string s5,.int .i64 x5]),.v 70 (.bool i5),.v 71 (.int .i64 0),.n 17 #[.bool false,.string ⟨#[]⟩,.int .i64 0] 35,.p 1013 0 [.bool g5,.string s5,.int .i64 x5],.v 18 (.bool i5),.v 19 (.int .i64 0)]) (fun p8=>[(1,.int .u64 b),(3,pT (p1 0).N 0),(6,.bool false),(7,.bool true),(8,.int .i64 (n:Int)),(12,pT (p6 8).N 0),(14,.int .i64 0),(15,.int .u64 b),(16,.bool true),(17,pT (p8 13).N 0),(19,.int .i64 0),(43,.bool false)]) (fun p8=>?_) (fun p8 W8 T hF hK=>?_)
 ·refine okl ?_
  iterate 5 refine okv ?_
  refine okvi (hk) ?_
  refine okvi (wr64 (x:=((n:Int)+(k:Int))) (by omega) (by omega)) ?_
  refine okc (fun W cx=>as_v (unhide H5 _ (ht.kept cx.fr) (htp.kept cx.fr))) ?_
  iterate 4 refine okv ?_
  refine okn ?_
  refine okp ?_
  iterate 2 refine okv ?_
  exact ok_nil
 replace hS:=SymF.fc hS hF [0,1,1013] [⟨(p1 0).N,#[.int .i64 E,.int .i64 F],23,true⟩,⟨(p6 8).N,#[.bool g4,.string s4,.int .i64 x4],35,true⟩,⟨(p8 13).N,#[.bool g5,.string s5,.int .i64 x5],35,true⟩]
 replace hG:=hF.gx
 clear hF
 refine wq hS hG hK (fun p9=>[.l 73 (.agg #[.int .i64 E,.int .i64 F]) 0 0,.l 74 (.agg #[.bool g5,.string s5,.int .i64 x5]) 2 0,.c (some 75) (cV (.tuple #[.int .u64 b,.bool true])),.v 72 (.tuple #[.int .u64 b,.bool true]),.v 76 (.int .u64 b),.v 77 (.bool true),.v 20 (.int .u64 b),.v 21 (.bool true)]) (fun p9=>[(1,.int .u64 b),(6,.bool false),(7,.bool true),(8,.int .i64 (n:Int)),(12,pT (p6 8).N 0),(14,.int .i64 0),(15,.int .u64 b),(16,.bool true),(19,.int .i64 0),(20,.int .u64 b),(21,.bool true),(43,.bool false)]) (fun p9=>?_) (fun p9 W9 T hF hK=>?_)
 ·iterate 2 refine okl ?_
  refine okc (fun W cx=>as_v (unhide HB5 _ (ht.kept cx.fr))) ?_
  iterate 5 refine okv ?_
  exact ok_nil
 replace hS:=SymF.fc hS hF [1] [⟨(p6 8).N,#[.bool g4,.string s4,.int .i64 x4],35,true⟩]
 replace hG:=hF.gx
 clear hF
 refine wq hS hG hK (fun p10=>[.v 78 (.bool true),.v 79 (.bool true),.v 80 (.int .i64 0),.v 81 (.bool true),.v 82 (.bool true),.v 83 (.bool true),.v 84 (.int .i64 0),.v 85 (.bool true),.v 86 (.bool true),.v 87 (.bool true),.v 88 (.bool true),.v 89 (.bool true),.v 90 (.bool true),.v 91 (.bool true),.v 92 (.bool true),.v 93 (.bool true),.v 94 (.int .u64 b),.v 95 (.int .u64 b),.v 96 (.bool true),.v 97 (.bool true),.v 98 (.bool true),.v 99 (.int .u64 b),.v 100 (.int .u64 b),.v 101 (.bool true),.v 102 (.bool true),.v 103 (.bool true),.v 104 (pT (p6 8).N 1),.l 105 (.string s4) 0 1,.v 106 (.int .i64 (s4.size:Int)),.v 107 (.int .i64 (n:Int)),.v 108 (.bool true),.v 109 (.bool true),.v 6 (.bool true)]) (fun p10=>[(6,.bool true),(7,.bool true),(43,.bool false)]) (fun p10=>?_) (fun p10 W10 T hF hK=>?_)
 ·iterate 18 refine okv ?_
  refine okvb (beq_self_eq_true b) ?_
  iterate 4 refine okv ?_
  refine okvb (beq_self_eq_true b) ?_
  iterate 3 refine okv ?_
  refine okl ?_
  iterate 2 refine okv ?_
  refine okvb (decide_eq_true (show (s4.size:Int)≤(n:Int) by omega)) ?_
  iterate 2 refine okv ?_
  exact ok_nil
 replace hS:=SymF.fc hS hF [] []
 replace hG:=hF.gx
 clear hF
 refine wp_ret ?_
 exact sym_end hS hK (.bool true) [] [] (by kernel_rfl) (by kernel_rfl) ⟨rfl,hS.fr⟩
end Go.Proofs.YteafdlblemdclaaGreatDoor
