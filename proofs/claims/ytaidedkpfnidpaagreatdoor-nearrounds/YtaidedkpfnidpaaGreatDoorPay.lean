/- Of what NearRoundsRow stands on: ExMul ExValue ExVal ExWo. -/
import Derived.Test.YtaidedkpfnidpaaGreatDoorPav
import Derived.Test.YtaidedkpfnidpaaGreatDoorPaw
namespace Go.Proofs.YtaidedkpfnidpaaGreatDoor
open Go.RowKit
set_option maxHeartbeats 2000000
set_option maxRecDepth 20000
theorem Bz(s:Bool)(a:Option Addr)(cap m:Nat)(x:Int)(s':Bool)(a':Option Addr)(n' cap' m':Nat)(x':Int)(w:World)(h:Dy w s a 0 m x)(h':Dy w s' a' n' m' x') :
  Calls Tryz.prog 133 #[.agg #[.bool s,.slice a 0 cap,.int .i64 x],.agg #[.bool s',.slice a' n' cap',.int .i64 x']] w fun e w'=>e = .returned (.tuple #[.agg #[.bool false,.slice none 0 0,.int .i64 0],.int .i64 0])∧Below w.heap.size w w':=by
 have H:=hide h;have H':=hide h';clear h h';go_enter Tryz.func133,Tryz.ntmps133
 go_wp2_with fail
 refine (bU s a 0 cap m x s' a' n' cap' m' x' _ ((aa H).kept (ai (ai (ah _ _) (ah _ _)) (ah _ _))) ((aa H').kept (ai (ai (ah _ _) (ah _ _)) (ah _ _)))).mono ?_;rintro e w1 ⟨rfl,hb1⟩;have hS:=(Fs.three w _ _ _ _ _ _).kept hb1;obtain ⟨⟨ya,yb,yc,-⟩,⟨yd,ye,yf,-⟩,⟨yg,yh,yi,-⟩,-⟩:=hS.cells;go_wp2_with fail
 refine (eH a cap _).mono ?_;rintro e w2 ⟨rfl,hb2⟩;replace hS:=hS.kept hb2;clear ya yb yc yd ye yf yg yh yi;obtain ⟨⟨yj,yk,yl,-⟩,⟨ym,yn,yo,-⟩,⟨yp,yq,yr,-⟩,-⟩:=hS.cells;have Q_:=hS.frozen (b:=w.heap.size+2) (cs:=#[.bool false,.slice none 0 0,.int .i64 0]) (t:=58) (by simp);have fz0:=Q_ 0;have fz1:=Q_ 1;have fz2:=Q_ 2;clear Q_;go_wp2
 exact bodyPost_ret (v:=.tuple #[.agg #[.bool false,.slice none 0 0,.int .i64 0],.int .i64 0]) (by simp [results,Tryz.results133,go_sem,yp,yq,yr]) rfl ⟨rfl,((hS.fr.setCell (by simp<;>omega) _).setCell (by simp<;>omega) _).setCell (by simp<;>omega) _⟩
theorem sZ(a a':Option Addr)(n n' cap cap' m m':Nat)(w:World)(h:Num w a n m)(h':Num w a' n' m')(hno:¬Over (m*m')) :
  Calls Tryz.prog 118 #[.agg #[.slice a n cap],.agg #[.slice a' n' cap']] w fun e w'=>(∃a n c,e = .returned (.tuple #[.agg #[.slice a n c],.int .i64 0])∧Mine w' w.heap.size a n c (m*m'))∧Below w.heap.size w w':=by
 refine (j6 a a' n n' cap cap' m m' w h h').mono ?_;rintro e w' ⟨h1|h1,hb⟩
 ·exact ⟨h1,hb⟩
 ·exact absurd h1.2 hno
theorem Ai(a:Option Addr)(n cap m:Nat)(x:Int)(a':Option Addr)(n' cap' m':Nat)(x':Int)(w:World)(h:Dy w true a n m x)(h':Dy w false a' n' m' x')(hn:0<n)(hn':0<n')(hx:-1073741824≤x+x'∧x+x'≤1073741824)(hno:¬Over (m*m')) :
  Calls Tryz.prog 133 #[.agg #[.bool true,.slice a n cap,.int .i64 x],.agg #[.bool false,.slice a' n' cap',.int .i64 x']] w fun e w'=>(∃A N C,e = .returned (.tuple #[.agg #[.bool true,.slice A N C,.int .i64 (x+x')],.int .i64 0])∧Mine w' w.heap.size A N C (m*m'))∧Below w.heap.size w w':=by
 have H:=hide h;have H':=hide h';have hxr:=h.range;have hxr':=h'.range;have HO:=hide hno;clear h h' hno;go_enter Tryz.func133,Tryz.ntmps133
 go_wp2_with fail
 refine (bU true a n cap m x false a' n' cap' m' x' _ ((aa H).kept (ai (ai (ah _ _) (ah _ _)) (ah _ _))) ((aa H').kept (ai (ai (ah _ _) (ah _ _)) (ah _ _)))).mono ?_;rintro e w1 ⟨rfl,hb1⟩;have hS:=(Fs.three w _ _ _ _ _ _).kept hb1;obtain ⟨⟨ya,yb,yc,-⟩,⟨yd,ye,yf,-⟩,⟨yg,yh,yi,-⟩,-⟩:=hS.cells;go_wp2_with fail
 refine (aW a n cap hn _).mono ?_;rintro e w2 ⟨rfl,hb2⟩;replace hS:=hS.kept hb2;clear ya yb yc yd ye yf yg yh yi;obtain ⟨⟨yj,yk,yl,-⟩,⟨ym,yn,yo,-⟩,⟨yp,yq,yr,-⟩,-⟩:=hS.cells;go_wp2_with fail
 refine (aW a' n' cap' hn' _).mono ?_;rintro e w3 ⟨rfl,hb3⟩;replace hS:=hS.kept hb3;clear yj yk yl ym yn yo yp yq yr;obtain ⟨⟨ys,yt,yu,-⟩,⟨yv,yw,yx,-⟩,⟨yy,yz,y0,-⟩,-⟩:=hS.cells;go_wp2_with fail
 refine (lT _ hx _).mono ?_;rintro e w4 ⟨rfl,hb4⟩;replace hS:=hS.kept hb4;clear ys yt yu yv yw yx yy yz y0;obtain ⟨⟨y1,y2,y3,-⟩,⟨y4,y5,y6,-⟩,⟨y7,y8,y9,-⟩,-⟩:=hS.cells;have hltw4_0:w.heap.size<w4.heap.size:=hS.lt 0 rfl;have hltw4_1:w.heap.size+1<w4.heap.size:=hS.lt 1 rfl;have hltw4_2:w.heap.size+2<w4.heap.size:=hS.lt 2 rfl;go_wp2_with fail
 refine (sZ a a' n n' cap cap' m m' _ ((aa H).kept hS.fr).num ((aa H').kept hS.fr).num (aa HO)).mono ?_;rintro e w5 ⟨⟨A5,N5,C5,rfl,f5⟩,hb5⟩;replace hS:=hS.kept hb5;clear y1 y2 y3 y4 y5 y6 y7 y8 y9;obtain ⟨⟨yba,ybb,ybc,-⟩,⟨ybd,ybe,ybf,-⟩,⟨ybg,ybh,ybi,-⟩,-⟩:=hS.cells;have hltw5_0:w.heap.size<w5.heap.size:=hS.lt 0 rfl;have hltw5_1:w.heap.size+1<w5.heap.size:=hS.lt 1 rfl;have hltw5_2:w.heap.size+2<w5.heap.size:=hS.lt 2 rfl;have F5:=hide f5;clear f5;have Q_:=hS.frozen (b:=w.heap.size+2) (cs:=#[.bool false,.slice none 0 0,.int .i64 0]) (t:=58) (by simp);have fz0:=Q_ 0;have fz1:=Q_ 1;have fz2:=Q_ 2;clear Q_;go_wp2
 have hB:=fun u0 u1 u2=>((hS.fr.setCell (p:=⟨w.heap.size+2,0,none⟩) (by simp<;>omega) u0).setCell (p:=⟨w.heap.size+2,1,none⟩) (by simp<;>omega) u1).setCell (p:=⟨w.heap.size+2,2,none⟩) (by simp<;>omega) u2;exact bodyPost_ret (v:=.tuple #[.agg #[.bool true,.slice A5 N5 C5,.int .i64 (x+x')],.int .i64 0]) (by simp [results,Tryz.results133,go_sem,ybg,ybh,ybi,hltw5_2]) rfl
  ⟨⟨_,_,_,rfl,(((((aa F5).set (by exact hltw4_2) _).set (by exact hltw4_2) _).set (by exact hltw4_2) _).alloc _).mono (by omega)⟩,(hB _ _ _).alloc (hB _ _ _).size _⟩
theorem zf(a:Option Addr)(n cap m:Nat)(x:Int)(a':Option Addr)(n' cap' m':Nat)(x':Int)(w:World)(h:Dy w false a n m x)(h':Dy w false a' n' m' x')(hn:0<n)(hn':0<n')(hx:-1073741824≤x+x'∧x+x'≤1073741824)(hno:¬Over (m*m')) :
  Calls Tryz.prog 133 #[.agg #[.bool false,.slice a n cap,.int .i64 x],.agg #[.bool false,.slice a' n' cap',.int .i64 x']] w fun e w'=>(∃A N C,e = .returned (.tuple #[.agg #[.bool false,.slice A N C,.int .i64 (x+x')],.int .i64 0])∧Mine w' w.heap.size A N C (m*m'))∧Below w.heap.size w w':=by
 have H:=hide h;have H':=hide h';have hxr:=h.range;have hxr':=h'.range;have HO:=hide hno;clear h h' hno;go_enter Tryz.func133,Tryz.ntmps133
 go_wp2_with fail
 refine (bU false a n cap m x false a' n' cap' m' x' _ ((aa H).kept (ai (ai (ah _ _) (ah _ _)) (ah _ _))) ((aa H').kept (ai (ai (ah _ _) (ah _ _)) (ah _ _)))).mono ?_;rintro e w1 ⟨rfl,hb1⟩;have hS:=(Fs.three w _ _ _ _ _ _).kept hb1;obtain ⟨⟨ya,yb,yc,-⟩,⟨yd,ye,yf,-⟩,⟨yg,yh,yi,-⟩,-⟩:=hS.cells;go_wp2_with fail
 refine (aW a n cap hn _).mono ?_;rintro e w2 ⟨rfl,hb2⟩;replace hS:=hS.kept hb2;clear ya yb yc yd ye yf yg yh yi;obtain ⟨⟨yj,yk,yl,-⟩,⟨ym,yn,yo,-⟩,⟨yp,yq,yr,-⟩,-⟩:=hS.cells;go_wp2_with fail
 refine (aW a' n' cap' hn' _).mono ?_;rintro e w3 ⟨rfl,hb3⟩;replace hS:=hS.kept hb3;clear yj yk yl ym yn yo yp yq yr;obtain ⟨⟨ys,yt,yu,-⟩,⟨yv,yw,yx,-⟩,⟨yy,yz,y0,-⟩,-⟩:=hS.cells;go_wp2_with fail
 refine (lT _ hx _).mono ?_;rintro e w4 ⟨rfl,hb4⟩;replace hS:=hS.kept hb4;clear ys yt yu yv yw yx yy yz y0;obtain ⟨⟨y1,y2,y3,-⟩,⟨y4,y5,y6,-⟩,⟨y7,y8,y9,-⟩,-⟩:=hS.cells;have hltw4_0:w.heap.size<w4.heap.size:=hS.lt 0 rfl;have hltw4_1:w.heap.size+1<w4.heap.size:=hS.lt 1 rfl;have hltw4_2:w.heap.size+2<w4.heap.size:=hS.lt 2 rfl;go_wp2_with fail
 refine (sZ a a' n n' cap cap' m m' _ ((aa H).kept hS.fr).num ((aa H').kept hS.fr).num (aa HO)).mono ?_;rintro e w5 ⟨⟨A5,N5,C5,rfl,f5⟩,hb5⟩;replace hS:=hS.kept hb5;clear y1 y2 y3 y4 y5 y6 y7 y8 y9;obtain ⟨⟨yba,ybb,ybc,-⟩,⟨ybd,ybe,ybf,-⟩,⟨ybg,ybh,ybi,-⟩,-⟩:=hS.cells;have hltw5_0:w.heap.size<w5.heap.size:=hS.lt 0 rfl;have hltw5_1:w.heap.size+1<w5.heap.size:=hS.lt 1 rfl;have hltw5_2:w.heap.size+2<w5.heap.size:=hS.lt 2 rfl;have F5:=hide f5;clear f5;have Q_:=hS.frozen (b:=w.heap.size+2) (cs:=#[.bool false,.slice none 0 0,.int .i64 0]) (t:=58) (by simp);have fz0:=Q_ 0;have fz1:=Q_ 1;have fz2:=Q_ 2;clear Q_;go_wp2
 have hB:=fun u0 u1 u2=>((hS.fr.setCell (p:=⟨w.heap.size+2,0,none⟩) (by simp<;>omega) u0).setCell (p:=⟨w.heap.size+2,1,none⟩) (by simp<;>omega) u1).setCell (p:=⟨w.heap.size+2,2,none⟩) (by simp<;>omega) u2;exact bodyPost_ret (v:=.tuple #[.agg #[.bool false,.slice A5 N5 C5,.int .i64 (x+x')],.int .i64 0]) (by simp [results,Tryz.results133,go_sem,ybg,ybh,ybi,hltw5_2]) rfl
  ⟨⟨_,_,_,rfl,(((((aa F5).set (by exact hltw4_2) _).set (by exact hltw4_2) _).set (by exact hltw4_2) _).alloc _).mono (by omega)⟩,(hB _ _ _).alloc (hB _ _ _).size _⟩
theorem vU{F:Nat}(h:F≤52):IntKind.u64.wrap (1*2^min (F:Int).toNat 64)=((2^F:Nat):Int):=by
 have h1:2^F≤2^52:=Nat.pow_le_pow_right (by omega) h;have e:(2:Int)^F=((2^F:Nat):Int):=by rw [Int.natCast_pow];rfl
 rw [Int.toNat_natCast,Nat.min_eq_left (by omega),Int.one_mul,IntKind.wrap_u64,e];generalize 2^F=q at h1 ⊢;omega
theorem DU(E F b ex fr:Nat)(neg:Bool)(h:Fo E F)(hB:Bt E F b neg ex fr)(hc:dN ex fr (2^E-1)=1)(w:World):Calls Tryz.prog 15 #[.agg #[.int .i64 E,.int .i64 F],.int .u64 b] w fun e w'=>e = .returned (.tuple #[.int .u8 1,.int .i64 0])∧Below w.heap.size w w':=by
 have:=eU E F b ex fr neg h hB (2^E-1) (hide rfl) w;rw [hc] at this;exact this
theorem Ef(E F b ex fr:Nat)(neg:Bool)(h:Fo E F)(hB:Bt E F b neg ex fr)(hc:dN ex fr (2^E-1)=2)(w:World):Calls Tryz.prog 15 #[.agg #[.int .i64 E,.int .i64 F],.int .u64 b] w fun e w'=>e = .returned (.tuple #[.int .u8 2,.int .i64 0])∧Below w.heap.size w w':=by
 have:=eU E F b ex fr neg h hB (2^E-1) (hide rfl) w;rw [hc] at this;exact this
theorem DI(E F b ex fr:Nat)(neg:Bool)(h:Fo E F)(hB:Bt E F b neg ex fr)(hc:dN ex fr (2^E-1)=3)(w:World):Calls Tryz.prog 15 #[.agg #[.int .i64 E,.int .i64 F],.int .u64 b] w fun e w'=>e = .returned (.tuple #[.int .u8 3,.int .i64 0])∧Below w.heap.size w w':=by
 have:=eU E F b ex fr neg h hB (2^E-1) (hide rfl) w;rw [hc] at this;exact this
theorem EA(E F b ex fr:Nat)(neg:Bool)(h:Fo E F)(hB:Bt E F b neg ex fr)(hc:dN ex fr (2^E-1)=4)(w:World):Calls Tryz.prog 15 #[.agg #[.int .i64 E,.int .i64 F],.int .u64 b] w fun e w'=>e = .returned (.tuple #[.int .u8 4,.int .i64 0])∧Below w.heap.size w w':=by
 have:=eU E F b ex fr neg h hB (2^E-1) (hide rfl) w;rw [hc] at this;exact this
theorem ED(E F b ex fr:Nat)(neg:Bool)(h:Fo E F)(hB:Bt E F b neg ex fr)(hc:dN ex fr (2^E-1)=5)(w:World):Calls Tryz.prog 15 #[.agg #[.int .i64 E,.int .i64 F],.int .u64 b] w fun e w'=>e = .returned (.tuple #[.int .u8 5,.int .i64 0])∧Below w.heap.size w w':=by
 have:=eU E F b ex fr neg h hB (2^E-1) (hide rfl) w;rw [hc] at this;exact this
theorem qc(E F B b ex fr:Nat)(s:Bool)(h0:Fo E F)(HB:Hid (B=2^(E-1)-1))(hB:Bt E F b s ex fr)(c er:Int)(HC:Hid (∀W:World,Calls Tryz.prog 15 #[.agg #[.int .i64 E,.int .i64 F],.int .u64 b] W fun e w'=>e = .returned (.tuple #[.int .u8 c,.int .i64 0])∧Below W.heap.size W w'))(HWo:Hid (∀(pF:Nat) (W:World),Calls Tryz.prog 96 #[.int .u8 c,.agg #[.bool s,.int .i64 ex,.int .u64 fr],.int .u64 pF,.int .i64 (1-(B:Int)-(F:Int))] W fun e w'=>e = .returned (.tuple #[.agg #[.bool false,.slice none 0 0,.int .i64 0],.int .i64 er])∧Below W.heap.size W w'))(w:World) :
  Calls Tryz.prog 51 #[.agg #[.int .i64 E,.int .i64 F],.int .u64 b] w fun e w'=>e = .returned (.tuple #[.agg #[.bool false,.slice none 0 0,.int .i64 0],.int .i64 er])∧Below w.heap.size w w':=by
 refine ax Tryz.func51 rfl (by kernel_rfl) fun T hK=>?_;replace hK:Kn T _ [(0,.agg #[.int .i64 (E:Int),.int .i64 (F:Int)]),(1,.int .u64 (b:Int))]:=hK;have hS:=Fb.begin w;have hG:au [] w:=trivial;refine wq hS hG hK (fun p1=>[.n 2 #[vJ (E:Int),vJ (F:Int)] 23,.n 4 #[.bool false,nJ,vJ 0] 58,.v 5 (vJ 0)]) (fun p1=>[(1,.int .u64 (b:Int)),(2,pT (p1 0).N 0),(4,pT (p1 1).N 0),(5,vJ 0)]) (fun p1=>?_) (fun p1 W1 T hF hK=>?_)
 ·iterate 2 refine aI ?_
  refine af ?_;exact ae
 replace hS:=ag.fc hS hF [1000,1001] [⟨(p1 0).N,#[vJ (E:Int),vJ (F:Int)],23,true⟩,⟨(p1 1).N,#[.bool false,nJ,vJ 0],58,true⟩];replace hG:=hF.gx;clear hF;refine wq hS hG hK (fun p2=>[.l 12 (.agg #[vJ (E:Int),vJ (F:Int)]) 0 0,.v 13 (.int .u64 (b:Int)),.c (some 14) (cV (.tuple #[.int .u8 c,vJ 0])),.v 11 (.tuple #[.int .u8 c,vJ 0]),.v 15 (.int .u8 c),.v 16 (vJ 0),.v 6 (.int .u8 c),.v 7 (vJ 0)]) (fun p2=>[(1,.int .u64 (b:Int)),(2,pT (p1 0).N 0),(4,pT (p1 1).N 0),(5,vJ 0),(6,.int .u8 c),(7,vJ 0)]) (fun p2=>?_) (fun p2 W2 T hF hK=>?_)
 ·refine aj ?_;refine af ?_;refine av (fun W cx=>aD (aa HC _)) ?_;iterate 5 refine af ?_
  exact ae
 obtain ⟨hS,hG⟩:=ag.fg hS hF;clear hF;refine wp_seq ?_;refine wq hS hG hK (fun p3=>[.v 17 (vJ 0),.v 18 (.bool false)]) (fun p3=>[(1,.int .u64 (b:Int)),(2,pT (p1 0).N 0),(4,pT (p1 1).N 0),(5,vJ 0),(6,.int .u8 c),(7,vJ 0),(18,.bool false)]) (fun p3=>?_) (fun p3 W3 T hF hK=>?_)
 ·iterate 2 refine af ?_
  exact ae
 obtain ⟨hS,hG⟩:=ag.fg hS hF;clear hF;refine wp_cond_false (hK.ew 18) (wp_skip (aB ?_));refine wq hS hG hK (fun p4=>[.l 22 (.agg #[vJ (E:Int),vJ (F:Int)]) 0 0,.v 23 (.int .u64 (b:Int)),.c (some 24) (cV (.tuple #[.agg #[.bool s,vJ (ex:Int),.int .u64 (fr:Int)],vJ 0])),.v 21 (.tuple #[.agg #[.bool s,vJ (ex:Int),.int .u64 (fr:Int)],vJ 0]),.v 25 (.agg #[.bool s,vJ (ex:Int),.int .u64 (fr:Int)]),.v 26 (vJ 0),.n 8 #[.bool false,vJ 0,.int .u64 0] 35,.p 1006 0 [.bool s,vJ (ex:Int),.int .u64 (fr:Int)],.v 7 (vJ 0)]) (fun p4=>[(2,pT (p1 0).N 0),(4,pT (p1 1).N 0),(5,vJ 0),(6,.int .u8 c),(7,vJ 0),(8,pT (p4 6).N 0)]) (fun p4=>?_) (fun p4 W4 T hF hK=>?_)
 ·refine aj ?_;refine af ?_;refine av (fun W cx=>aD (kQ E F b ex fr s h0 hB _)) ?_;iterate 3 refine af ?_
  refine aI ?_;refine aF ?_;refine af ?_;exact ae
 replace hS:=ag.fc hS hF [0,1,1006] [⟨(p1 0).N,#[vJ (E:Int),vJ (F:Int)],23,true⟩,⟨(p1 1).N,#[.bool false,nJ,vJ 0],58,true⟩,⟨(p4 6).N,#[.bool s,vJ (ex:Int),.int .u64 (fr:Int)],35,true⟩];replace hG:=hF.gx;clear hF;refine wp_seq ?_;refine wq hS hG hK (fun p5=>[.v 27 (vJ 0),.v 28 (.bool false)]) (fun p5=>[(2,pT (p1 0).N 0),(4,pT (p1 1).N 0),(5,vJ 0),(6,.int .u8 c),(7,vJ 0),(8,pT (p4 6).N 0),(28,.bool false)]) (fun p5=>?_) (fun p5 W5 T hF hK=>?_)
 ·iterate 2 refine af ?_
  exact ae
 obtain ⟨hS,hG⟩:=ag.fg hS hF;clear hF;refine wp_cond_false (hK.ew 28) (wp_skip (aB ?_));refine wq hS hG hK (fun p6=>[.l 32 (.agg #[vJ (E:Int),vJ (F:Int)]) 0 0,.c (some 33) (cV (.tuple #[vJ (1-(B:Int)-(F:Int)),vJ (B:Int),vJ 0])),.v 31 (.tuple #[vJ (1-(B:Int)-(F:Int)),vJ (B:Int),vJ 0]),.v 34 (vJ (1-(B:Int)-(F:Int))),.v 35 (vJ (B:Int)),.v 36 (vJ 0),.v 9 (vJ (1-(B:Int)-(F:Int))),.v 10 (vJ (B:Int)),.v 7 (vJ 0)]) (fun p6=>[(2,pT (p1 0).N 0),(4,pT (p1 1).N 0),(5,vJ 0),(6,.int .u8 c),(7,vJ 0),(8,pT (p4 6).N 0),(9,vJ (1-(B:Int)-(F:Int)))]) (fun p6=>?_) (fun p6 W6 T hF hK=>?_)
 ·refine aj ?_;refine av (fun W cx=>aD (eO E F B h0 HB _)) ?_;iterate 7 refine af ?_
  exact ae
 obtain ⟨hS,hG⟩:=ag.fg hS hF;clear hF;refine wp_seq ?_;refine wq hS hG hK (fun p7=>[.v 37 (vJ 0),.v 38 (.bool false)]) (fun p7=>[(2,pT (p1 0).N 0),(4,pT (p1 1).N 0),(5,vJ 0),(6,.int .u8 c),(7,vJ 0),(8,pT (p4 6).N 0),(9,vJ (1-(B:Int)-(F:Int))),(38,.bool false)]) (fun p7=>?_) (fun p7 W7 T hF hK=>?_)
 ·iterate 2 refine af ?_
  exact ae
 obtain ⟨hS,hG⟩:=ag.fg hS hF;clear hF;refine wp_cond_false (hK.ew 38) (wp_skip (aB ?_));refine wq hS hG hK (fun p8=>[.v 41 (.int .u8 c),.l 42 (.agg #[.bool s,vJ (ex:Int),.int .u64 (fr:Int)]) 2 0,.v 43 (pT (p1 0).N 1),.l 44 (vJ (F:Int)) 0 1,.v 45 (.int .u64 ((2^F:Nat):Int)),.v 46 (vJ (1-(B:Int)-(F:Int))),.c (some 47) (cV (.tuple #[.agg #[.bool false,nJ,vJ 0],vJ er])),.v 48 (.agg #[.bool false,nJ,vJ 0]),.v 49 (vJ er),.p 1 0 [.bool false,nJ,vJ 0],.v 5 (vJ er)]) (fun p8=>[(4,pT (p1 1).N 0),(5,vJ er),(7,vJ 0)]) (fun p8=>?_) (fun p8 W8 T hF hK=>?_)
 ·refine af ?_;refine aj ?_;refine af ?_;refine aj ?_;refine bB (vU h0.f52) ?_;refine af ?_;refine av (fun W cx=>aD (aa HWo (2^F) _)) ?_;iterate 2 refine af ?_
  refine aF ?_;refine af ?_;exact ae
 replace hS:=ag.fc hS hF [1] [⟨(p1 1).N,#[.bool false,nJ,vJ 0],58,true⟩];replace hG:=hF.gx;clear hF;refine wp_ret ?_;exact aA hS hK (.tuple #[.agg #[.bool false,.slice none 0 0,.int .i64 0],.int .i64 er]) [(0,0,3)] [.bool false,.slice none 0 0,.int .i64 0] (by kernel_rfl) (by kernel_rfl) ⟨rfl,hS.fr⟩
theorem uV(E F B b ex fr:Nat)(s:Bool)(h0:Fo E F)(HB:Hid (B=2^(E-1)-1))(hB:Bt E F b s ex fr)(c y:Int)(v:Nat)(HC:Hid (∀W:World,Calls Tryz.prog 15 #[.agg #[.int .i64 E,.int .i64 F],.int .u64 b] W fun e w'=>e = .returned (.tuple #[.int .u8 c,.int .i64 0])∧Below W.heap.size W w'))(HWo:Hid (∀(pF:Nat) (W:World),pF=2^F→Tb W→Calls Tryz.prog 96 #[.int .u8 c,.agg #[.bool s,.int .i64 ex,.int .u64 fr],.int .u64 pF,.int .i64 (1-(B:Int)-(F:Int))] W fun e w'=>(∃A N C,e = .returned (.tuple #[.agg #[.bool s,.slice A N C,.int .i64 y],.int .i64 0])∧Mine w' W.heap.size A N C v)∧Below W.heap.size W w'))(w:World)(hT:Tb w) :
  Calls Tryz.prog 51 #[.agg #[.int .i64 E,.int .i64 F],.int .u64 b] w fun e w'=>(∃A N C,e = .returned (.tuple #[.agg #[.bool s,.slice A N C,.int .i64 y],.int .i64 0])∧Mine w' w.heap.size A N C v)∧Below w.heap.size w w':=by
 refine ax Tryz.func51 rfl (by kernel_rfl) fun T hK=>?_;replace hK:Kn T _ [(0,.agg #[.int .i64 (E:Int),.int .i64 (F:Int)]),(1,.int .u64 (b:Int))]:=hK;have hS:=Fb.begin w;have hG:au [] w:=trivial;refine wq hS hG hK (fun p1=>[.n 2 #[vJ (E:Int),vJ (F:Int)] 23,.n 4 #[.bool false,nJ,vJ 0] 58,.v 5 (vJ 0)]) (fun p1=>[(1,.int .u64 (b:Int)),(2,pT (p1 0).N 0),(4,pT (p1 1).N 0),(5,vJ 0)]) (fun p1=>?_) (fun p1 W1 T hF hK=>?_)
 ·iterate 2 refine aI ?_
  refine af ?_;exact ae
 replace hS:=ag.fc hS hF [1000,1001] [⟨(p1 0).N,#[vJ (E:Int),vJ (F:Int)],23,true⟩,⟨(p1 1).N,#[.bool false,nJ,vJ 0],58,true⟩];replace hG:=hF.gx;clear hF;refine wq hS hG hK (fun p2=>[.l 12 (.agg #[vJ (E:Int),vJ (F:Int)]) 0 0,.v 13 (.int .u64 (b:Int)),.c (some 14) (cV (.tuple #[.int .u8 c,vJ 0])),.v 11 (.tuple #[.int .u8 c,vJ 0]),.v 15 (.int .u8 c),.v 16 (vJ 0),.v 6 (.int .u8 c),.v 7 (vJ 0)]) (fun p2=>[(1,.int .u64 (b:Int)),(2,pT (p1 0).N 0),(4,pT (p1 1).N 0),(5,vJ 0),(6,.int .u8 c),(7,vJ 0)]) (fun p2=>?_) (fun p2 W2 T hF hK=>?_)
 ·refine aj ?_;refine af ?_;refine av (fun W cx=>aD (aa HC _)) ?_;iterate 5 refine af ?_
  exact ae
 obtain ⟨hS,hG⟩:=ag.fg hS hF;clear hF;refine wp_seq ?_;refine wq hS hG hK (fun p3=>[.v 17 (vJ 0),.v 18 (.bool false)]) (fun p3=>[(1,.int .u64 (b:Int)),(2,pT (p1 0).N 0),(4,pT (p1 1).N 0),(5,vJ 0),(6,.int .u8 c),(7,vJ 0),(18,.bool false)]) (fun p3=>?_) (fun p3 W3 T hF hK=>?_)
 ·iterate 2 refine af ?_
  exact ae
 obtain ⟨hS,hG⟩:=ag.fg hS hF;clear hF;refine wp_cond_false (hK.ew 18) (wp_skip (aB ?_));refine wq hS hG hK (fun p4=>[.l 22 (.agg #[vJ (E:Int),vJ (F:Int)]) 0 0,.v 23 (.int .u64 (b:Int)),.c (some 24) (cV (.tuple #[.agg #[.bool s,vJ (ex:Int),.int .u64 (fr:Int)],vJ 0])),.v 21 (.tuple #[.agg #[.bool s,vJ (ex:Int),.int .u64 (fr:Int)],vJ 0]),.v 25 (.agg #[.bool s,vJ (ex:Int),.int .u64 (fr:Int)]),.v 26 (vJ 0),.n 8 #[.bool false,vJ 0,.int .u64 0] 35,.p 1006 0 [.bool s,vJ (ex:Int),.int .u64 (fr:Int)],.v 7 (vJ 0)]) (fun p4=>[(2,pT (p1 0).N 0),(4,pT (p1 1).N 0),(5,vJ 0),(6,.int .u8 c),(7,vJ 0),(8,pT (p4 6).N 0)]) (fun p4=>?_) (fun p4 W4 T hF hK=>?_)
 ·refine aj ?_;refine af ?_;refine av (fun W cx=>aD (kQ E F b ex fr s h0 hB _)) ?_;iterate 3 refine af ?_
  refine aI ?_;refine aF ?_;refine af ?_;exact ae
 replace hS:=ag.fc hS hF [0,1,1006] [⟨(p1 0).N,#[vJ (E:Int),vJ (F:Int)],23,true⟩,⟨(p1 1).N,#[.bool false,nJ,vJ 0],58,true⟩,⟨(p4 6).N,#[.bool s,vJ (ex:Int),.int .u64 (fr:Int)],35,true⟩];replace hG:=hF.gx;clear hF;refine wp_seq ?_;refine wq hS hG hK (fun p5=>[.v 27 (vJ 0),.v 28 (.bool false)]) (fun p5=>[(2,pT (p1 0).N 0),(4,pT (p1 1).N 0),(5,vJ 0),(6,.int .u8 c),(7,vJ 0),(8,pT (p4 6).N 0),(28,.bool false)]) (fun p5=>?_) (fun p5 W5 T hF hK=>?_)
 ·iterate 2 refine af ?_
  exact ae
 obtain ⟨hS,hG⟩:=ag.fg hS hF;clear hF;refine wp_cond_false (hK.ew 28) (wp_skip (aB ?_));refine wq hS hG hK (fun p6=>[.l 32 (.agg #[vJ (E:Int),vJ (F:Int)]) 0 0,.c (some 33) (cV (.tuple #[vJ (1-(B:Int)-(F:Int)),vJ (B:Int),vJ 0])),.v 31 (.tuple #[vJ (1-(B:Int)-(F:Int)),vJ (B:Int),vJ 0]),.v 34 (vJ (1-(B:Int)-(F:Int))),.v 35 (vJ (B:Int)),.v 36 (vJ 0),.v 9 (vJ (1-(B:Int)-(F:Int))),.v 10 (vJ (B:Int)),.v 7 (vJ 0)]) (fun p6=>[(2,pT (p1 0).N 0),(4,pT (p1 1).N 0),(5,vJ 0),(6,.int .u8 c),(7,vJ 0),(8,pT (p4 6).N 0),(9,vJ (1-(B:Int)-(F:Int)))]) (fun p6=>?_) (fun p6 W6 T hF hK=>?_)
 ·refine aj ?_;refine av (fun W cx=>aD (eO E F B h0 HB _)) ?_;iterate 7 refine af ?_
  exact ae
 obtain ⟨hS,hG⟩:=ag.fg hS hF;clear hF;refine wp_seq ?_;refine wq hS hG hK (fun p7=>[.v 37 (vJ 0),.v 38 (.bool false)]) (fun p7=>[(2,pT (p1 0).N 0),(4,pT (p1 1).N 0),(5,vJ 0),(6,.int .u8 c),(7,vJ 0),(8,pT (p4 6).N 0),(9,vJ (1-(B:Int)-(F:Int))),(38,.bool false)]) (fun p7=>?_) (fun p7 W7 T hF hK=>?_)
 ·iterate 2 refine af ?_
  exact ae
 obtain ⟨hS,hG⟩:=ag.fg hS hF;clear hF;have z7:=hS.fr.size;refine wp_cond_false (hK.ew 38) (wp_skip (aB ?_));refine wq hS hG hK (fun p8=>[.v 41 (.int .u8 c),.l 42 (.agg #[.bool s,vJ (ex:Int),.int .u64 (fr:Int)]) 2 0,.v 43 (pT (p1 0).N 1),.l 44 (vJ (F:Int)) 0 1,.v 45 (.int .u64 ((2^F:Nat):Int)),.v 46 (vJ (1-(B:Int)-(F:Int))),.c (some 47) (cG W7.heap.size v fun x9=>.tuple #[.agg #[.bool s,x9,vJ y],vJ 0]),.v 48 (.agg #[.bool s,sJ (p8 6),vJ y]),.v 49 (vJ 0),.p 1 0 [.bool s,sJ (p8 6),vJ y],.v 5 (vJ 0)]) (fun p8=>[(4,pT (p1 1).N 0),(5,vJ 0),(7,vJ 0)]) (fun p8=>?_) (fun p8 W8 T hF hK=>?_)
 ·refine af ?_;refine aj ?_;refine af ?_;refine aj ?_;refine bB (vU h0.f52) ?_;refine af ?_;refine av (fun W cx=>fQ cx.hb (aa HWo (2^F) _ rfl (hT.kept cx.fr))) ?_;iterate 2 refine af ?_
  refine aF ?_;refine af ?_;exact ae
 replace hS:=ag.fc hS hF [1] [⟨(p1 1).N,#[.bool s,sJ (p8 6),vJ y],58,true⟩];replace hG:au (gM W7.heap.size (p8 6).A (p8 6).N (p8 6).C v::_) W8:=⟨hF.fx 6,hF.gx⟩;clear hF;refine wp_ret ?_;exact aA hS hK (.tuple #[.agg #[.bool s,.slice (p8 6).A (p8 6).N (p8 6).C,.int .i64 y],.int .i64 0]) [(0,0,3)] [.bool s,.slice (p8 6).A (p8 6).N (p8 6).C,.int .i64 y] (by kernel_rfl) (by kernel_rfl) ⟨⟨_,_,_,rfl,Mine.mono hG.1 z7⟩,hS.fr⟩
theorem Du(E F B b ex fr:Nat)(s:Bool)(h0:Fo E F)(HB:Hid (B=2^(E-1)-1))(hB:Bt E F b s ex fr)(hc:dN ex fr (2^E-1)=1)(w:World)  :
  Calls Tryz.prog 51 #[.agg #[.int .i64 E,.int .i64 F],.int .u64 b] w fun e w'=>e = .returned (.tuple #[.agg #[.bool false,.slice none 0 0,.int .i64 0],.int .i64 0])∧Below w.heap.size w w':=
 qc E F B b ex fr s h0 HB hB 1 0 (hide fun W=>DU E F b ex fr s h0 hB hc W) (hide fun pF W=>Et s ex fr pF (1-(B:Int)-(F:Int)) W) w
theorem EO(E F B b ex fr:Nat)(s:Bool)(h0:Fo E F)(HB:Hid (B=2^(E-1)-1))(hB:Bt E F b s ex fr)(hc:dN ex fr (2^E-1)=4)(w:World)  :
  Calls Tryz.prog 51 #[.agg #[.int .i64 E,.int .i64 F],.int .u64 b] w fun e w'=>e = .returned (.tuple #[.agg #[.bool false,.slice none 0 0,.int .i64 0],.int .i64 8])∧Below w.heap.size w w':=
 qc E F B b ex fr s h0 HB hB 4 8 (hide fun W=>EA E F b ex fr s h0 hB hc W) (hide fun pF W=>Es s ex fr pF (1-(B:Int)-(F:Int)) W) w
theorem Ea(E F B b ex fr:Nat)(s:Bool)(h0:Fo E F)(HB:Hid (B=2^(E-1)-1))(hB:Bt E F b s ex fr)(hc:dN ex fr (2^E-1)=5)(w:World)  :
  Calls Tryz.prog 51 #[.agg #[.int .i64 E,.int .i64 F],.int .u64 b] w fun e w'=>e = .returned (.tuple #[.agg #[.bool false,.slice none 0 0,.int .i64 0],.int .i64 8])∧Below w.heap.size w w':=
 qc E F B b ex fr s h0 HB hB 5 8 (hide fun W=>ED E F b ex fr s h0 hB hc W) (hide fun pF W=>DR s ex fr pF (1-(B:Int)-(F:Int)) W) w
theorem rM(E F B b ex fr:Nat)(s:Bool)(h0:Fo E F)(HB:Hid (B=2^(E-1)-1))(hB:Bt E F b s ex fr)(M z:Nat)(xe:Int)(hc:dN ex fr (2^E-1)=3)(w:World)(hM0:0<M)(hM64:M<18446744073709551616)(hT:Tb w)(hz:Tz M z)(hz2:z<524288)(hbd:-1073741824≤xe+z∧xe+z≤1073741824)(hor:Hid (bits BinOp.or .u64 (fr:Int) ((2^F:Nat):Int)=(M:Int)))(hxe:(1-(B:Int)-(F:Int))+((ex:Int)-1)=xe)(hex:ex≤4096) :
  Calls Tryz.prog 51 #[.agg #[.int .i64 E,.int .i64 F],.int .u64 b] w fun e w'=>(∃A N C,e = .returned (.tuple #[.agg #[.bool s,.slice A N C,.int .i64 (xe+(z:Int))],.int .i64 0])∧Mine w' w.heap.size A N C (M/2^z))∧Below w.heap.size w w':=
 uV E F B b ex fr s h0 HB hB 3 _ _ (hide fun W=>DI E F b ex fr s h0 hB hc W) (hide fun pF W hp hT=>sw s ex fr pF (1-(B:Int)-(F:Int)) M z xe W hM0 hM64 hT hz hz2 hbd (by rw [hp];exact aa hor) hxe (by omega)) w hT
theorem uq(E F B b ex fr:Nat)(s:Bool)(h0:Fo E F)(HB:Hid (B=2^(E-1)-1))(hB:Bt E F b s ex fr)(M z:Nat)(xe:Int)(hc:dN ex fr (2^E-1)=2)(w:World)(hM0:0<M)(hM64:M<18446744073709551616)(hT:Tb w)(hz:Tz M z)(hz2:z<524288)(hbd:-1073741824≤xe+z∧xe+z≤1073741824)(hfr:Hid (fr=M))(hxe:(1-(B:Int)-(F:Int))=xe) :
  Calls Tryz.prog 51 #[.agg #[.int .i64 E,.int .i64 F],.int .u64 b] w fun e w'=>(∃A N C,e = .returned (.tuple #[.agg #[.bool s,.slice A N C,.int .i64 (xe+(z:Int))],.int .i64 0])∧Mine w' w.heap.size A N C (M/2^z))∧Below w.heap.size w w':=
 uV E F B b ex fr s h0 HB hB 2 _ _ (hide fun W=>Ef E F b ex fr s h0 hB hc W) (hide fun pF W _ hT=>uy s ex fr pF (1-(B:Int)-(F:Int)) M z xe W hM0 hM64 hT hz hz2 hbd (aa hfr) hxe) w hT
def sv(s:Bool)(m:Nat):Int:=if s then -(m:Int) else (m:Int)
theorem dE{v n:Nat}(h:v<2^n)(hn:n≤524288):¬Over v:=fun o=>by
 have h1:=o.le;have h2:4294967296^Pl.top=2^(32*Pl.top):=by rw [Nat.pow_mul]
 rw [h2] at h1;have h3:n≤32*Pl.top:=by have:=Pl.top_eq;omega
 have h4:=Nat.pow_le_pow_right (show 0<2 by decide) h3;exact absurd (Nat.lt_of_lt_of_le h h4) (Nat.not_lt.2 h1)
structure Wo(E F B ex fr M z:Nat)(xe:Int):Prop where
 tz:Tz M z
 part:(ex=0∧M=fr∧0<fr∧xe=1-(B:Int)-(F:Int))∨(0<ex∧M=fr+2^F∧xe=1-(B:Int)-(F:Int)+((ex:Int)-1))
 fin:ex+1<2^E
 frl:fr<2^F
theorem yI(fr F:Nat)(hF:F≤52)(hfr:fr<2^F):bits BinOp.or .u64 (fr:Int) ((2^F:Nat):Int)=((fr+2^F:Nat):Int):=by
 have h1:=aJ hF;have h2:=uf (2^F) fr F 1 (by rw [Nat.one_mul]) hfr (by omega);have h3:bits BinOp.or .u64 (fr:Int) ((2^F:Nat):Int)=bits BinOp.or .u64 ((2^F:Nat):Int) (fr:Int):=by
  show IntKind.u64.wrap ((BitVec.ofInt 64 (fr:Int)|||BitVec.ofInt 64 ((2^F:Nat):Int)).toNat:Int)=IntKind.u64.wrap ((BitVec.ofInt 64 ((2^F:Nat):Int)|||BitVec.ofInt 64 (fr:Int)).toNat:Int)
  rw [BitVec.or_comm]
 rw [h3,h2,Nat.add_comm]
theorem oF{M f:Nat}(h0:0<M)(h:M<2^f):∃z,Tz M z∧z<f:=by
 obtain ⟨q,hq,hz⟩:=Lib.ctzFrom_spec f M h0 h;exact ⟨_,⟨q,hq⟩,hz⟩
theorem Wo.ex{E F B ex fr:Nat}(hfin:ex+1<2^E)(hfr:fr<2^F)(hne:¬(ex=0∧fr=0)):∃M z xe,Wo E F B ex fr M z xe:=by
 by_cases h:ex=0
 ·obtain ⟨z,hz,_⟩:=oF (M:=fr) (by omega) hfr;exact ⟨fr,z,_,hz,Or.inl ⟨h,rfl,by omega,rfl⟩,hfin,hfr⟩
 ·obtain ⟨z,hz,_⟩:=oF (M:=fr+2^F) (f:=F+1) (by omega) (by rw [Nat.pow_succ];omega);exact ⟨fr+2^F,z,_,hz,Or.inr ⟨by omega,rfl,rfl⟩,hfin,hfr⟩
theorem Wo.pos{E F B ex fr M z:Nat}{xe:Int}(h:Wo E F B ex fr M z xe):0<M:=by
 have:=aL F;rcases h.part with ⟨_,h1,h2,_⟩|⟨_,h1,_⟩<;>omega
theorem Wo.lt{E F B ex fr M z:Nat}{xe:Int}(h:Wo E F B ex fr M z xe):M<2^(F+1):=by
 have:=h.frl;rw [Nat.pow_succ];rcases h.part with ⟨_,h1,h2,_⟩|⟨_,h1,_⟩<;>omega
theorem Wo.zle{E F B ex fr M z:Nat}{xe:Int}(h:Wo E F B ex fr M z xe):z≤F:=by
 obtain ⟨q,hq⟩:=h.tz;have h1:2^z≤M:=by rw [hq];exact Nat.le_mul_of_pos_right _ (by omega)
 have h2:2^z<2^(F+1):=Nat.lt_of_le_of_lt h1 h.lt;have:=(Nat.pow_lt_pow_iff_right (by decide:1<2)).1 h2;omega
theorem Wo.odd{E F B ex fr M z:Nat}{xe:Int}(h:Wo E F B ex fr M z xe):(M/2^z)%2=1∧M/2^z*2^z=M:=h.tz.down
theorem Wo.range{E F B ex fr M z:Nat}{xe:Int}(h:Wo E F B ex fr M z xe)(h0:Fo E F)(HB:Hid (B=2^(E-1)-1)):-2048≤xe∧xe+(F:Int)≤(B:Int)∧B≤1023:=by
 have h1:=sH h0 HB;have h2:=(Dk h0 HB).1;have h3:=(Dk h0 HB).2;have h4:=h.fin;have h5:=h0.f52;rcases h.part with ⟨_,_,_,h6⟩|⟨_,_,h6⟩<;>omega
theorem AL(E F B b ex fr:Nat)(s:Bool)(M z:Nat)(xe:Int)(w:World)(h0:Fo E F)(HB:Hid (B=2^(E-1)-1))(hB:Bt E F b s ex fr)(hW:Wo E F B ex fr M z xe)(hT:Tb w) :
  Calls Tryz.prog 51 #[.agg #[.int .i64 E,.int .i64 F],.int .u64 b] w fun e w'=>(∃A N C,e = .returned (.tuple #[.agg #[.bool s,.slice A N C,.int .i64 (xe+(z:Int))],.int .i64 0])∧Mine w' w.heap.size A N C (M/2^z))∧Below w.heap.size w w':=by
 have hr:=hW.range h0 HB;have hz:=hW.zle;have hF:=h0.f52;have hp:=aJ (show F+1≤53 by omega);have hlt:=hW.lt;have hfin:=hW.fin;have hE:=aJ h0.e11;rcases hW.part with ⟨h1,h2,h3,h4⟩|⟨h1,h2,h3⟩
 ·exact uq E F B b ex fr s h0 HB hB M z xe (by unfold dN;rw [if_neg (by omega),if_pos h1]) w hW.pos (by omega) hT hW.tz (by omega) (by omega) (hide h2.symm) h4.symm
 ·exact rM E F B b ex fr s h0 HB hB M z xe (by unfold dN;rw [if_neg (by omega),if_neg (by omega),if_pos (by omega)]) w hW.pos (by omega) hT hW.tz (by omega) (by omega) (hide (by rw [h2];exact yI fr F hF hW.frl)) h3.symm (by omega)
theorem xG(E F B b:Nat)(s:Bool)(w:World)(h0:Fo E F)(HB:Hid (B=2^(E-1)-1))(hB:Bt E F b s 0 0) :
  Calls Tryz.prog 51 #[.agg #[.int .i64 E,.int .i64 F],.int .u64 b] w fun e w'=>e = .returned (.tuple #[.agg #[.bool false,.slice none 0 0,.int .i64 0],.int .i64 0])∧Below w.heap.size w w':=
 Du E F B b 0 0 s h0 HB hB (by unfold dN;rw [if_pos ⟨rfl,rfl⟩]) w
theorem Wo.bits{E F B ex fr M z:Nat}{xe:Int}(h:Wo E F B ex fr M z xe){k:Nat}(hk:Bl (M/2^z) k):0<k∧(ex=0→k+z≤F)∧(0<ex→k+z=F+1):=by
 obtain ⟨ho,hm⟩:=h.odd;have hM0:=h.pos;have hfr:=h.frl;have hk0:0<k:=by
  rcases Nat.eq_zero_or_pos k with h3|h3
  ·subst h3;have:=hk.1;rw [Nat.pow_zero] at this;exact absurd ho (by rw [Nat.lt_one_iff.1 this];decide)
  ·exact h3
 have h1:M<2^(k+z):=by
  rw [←hm,Nat.pow_add];exact Nat.mul_lt_mul_of_pos_right hk.1 (aL z)
 have h2:2^(k-1+z)≤M:=by
  rcases hk.2 with h3|h3
  ·omega
  ·rw [←hm,Nat.pow_add];exact Nat.mul_le_mul_right _ h3
 refine ⟨hk0,fun he=>?_,fun he=>?_⟩
 ·rcases h.part with ⟨_,h4,_,_⟩|⟨h4,_⟩
  ·have h5:2^(k-1+z)<2^F:=by omega
   have:=(Nat.pow_lt_pow_iff_right (by decide:1<2)).1 h5;omega
  ·omega
 ·rcases h.part with ⟨h4,_⟩|⟨_,h4,_⟩
  ·omega
  ·have h5:2^(k-1+z)<2^(F+1):=by rw [Nat.pow_succ];omega
   have h6:2^F<2^(k+z):=by omega
   have h7:=(Nat.pow_lt_pow_iff_right (by decide:1<2)).1 h5;have h8:=(Nat.pow_lt_pow_iff_right (by decide:1<2)).1 h6;omega
theorem Wo.inj{E F B ex fr M z ex' fr' M' z':Nat}{xe xe':Int}(h:Wo E F B ex fr M z xe)(h':Wo E F B ex' fr' M' z' xe')(hm:M/2^z=M'/2^z')(hx:xe+(z:Int)=xe'+(z':Int)):ex=ex'∧fr=fr':=by
 obtain ⟨k,hk⟩:=xz (M/2^z);have hk':=hk;rw [hm] at hk';obtain ⟨_,h1,h2⟩:=h.bits hk;obtain ⟨_,h1',h2'⟩:=h'.bits hk';have hxe:xe=xe':=by
  rcases h.part with ⟨a1,_,_,a2⟩|⟨a1,_,a2⟩<;>rcases h'.part with ⟨b1,_,_,b2⟩|⟨b1,_,b2⟩
  ·omega
  ·have:=h1 a1;have:=h2' b1;omega
  ·have:=h2 a1;have:=h1' b1;omega
  ·have:=h2 a1;have:=h2' b1;omega
 have hzz:z=z':=by omega
 have hMM:M=M':=by
  have e1:=h.odd.2;have e2:=h'.odd.2;rw [←e1,←e2,hm,hzz]
 have hfr:=h.frl;have hfr':=h'.frl;rcases h.part with ⟨a1,a3,_,a2⟩|⟨a1,a3,a2⟩<;>rcases h'.part with ⟨b1,b3,_,b2⟩|⟨b1,b3,b2⟩<;>omega
end Go.Proofs.YtaidedkpfnidpaaGreatDoor
