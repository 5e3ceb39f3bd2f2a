/- Of what NearRoundsRow stands on: NrMid NrFin RcE NrUlp. -/
import Derived.Test.YtaidedkpfnidpaaGreatDoorPba
import Derived.Test.YtaidedkpfnidpaaGreatDoorPbc
namespace Go.Proofs.YtaidedkpfnidpaaGreatDoor
open Go.RowKit
set_option maxHeartbeats 4000000
set_option maxRecDepth 20000
def pq(E F b:Int)(s:Bool)(m:Nat)(x:Int):Prop:=∀W:World,Tb W→Calls Tryz.prog 51 #[.agg #[.int .i64 E,.int .i64 F],.int .u64 b] W fun e w'=>(∃A N C,e = .returned (.tuple #[.agg #[.bool s,.slice A N C,.int .i64 x],.int .i64 0])∧Mine w' W.heap.size A N C m)∧Below W.heap.size W w'
def zG(s:Bool)(x:Int):Prop:=∀(W:World)(B:Nat)(A:Option Addr)(N C:Nat),Mine W B A N C 1→Tb W→Calls Tryz.prog 53 #[.bool s,.agg #[.slice A N C],.int .i64 x] W fun e w'=>(∃A N C,e = .returned (.tuple #[.agg #[.bool s,.slice A N C,.int .i64 x],.int .i64 0])∧Mine w' W.heap.size A N C 1)∧Below W.heap.size W w'
theorem lF{w:World}{B:Nat}{a:Option Addr}{n c m:Nat}(h:Mine w B a n c m):n≤c∧c≤9223372036854775807:=by
 obtain ⟨xs,hn,ho,_⟩:=h;obtain ⟨a',c',e,h1,h2,_⟩:=ho.lim;cases e;exact ⟨by omega,h2⟩
theorem vB(s:Bool)(k:Int)(hk:-1073741824≤k∧k≤1073741824):zG s k:=fun W B A N C h hT=>by
 have hc:=lF h;have:=j4 s A N C 1 0 k W h.num (by decide) hT ⟨0,by decide⟩ (by decide) hc.1 hc.2 (by omega);rw [show k+((0:Nat):Int)=k from by omega,show 1/2^0=1 from by decide] at this;exact this
theorem zK{E F B b:Nat}{s:Bool}(h0:Fo E F)(HB:Hid (B=2^(E-1)-1))(hB:Bt E F b s 0 0):pq E F b false 0 0:=fun W _=>by
 refine (xG E F B b s W h0 HB hB).mono ?_;rintro e w' ⟨rfl,hb⟩;exact ⟨⟨none,0,0,rfl,gq _ _⟩,hb⟩
theorem wC{E F B b ex fr M z:Nat}{s:Bool}{xe:Int}(h0:Fo E F)(HB:Hid (B=2^(E-1)-1))(hB:Bt E F b s ex fr)(hW:Wo E F B ex fr M z xe):pq E F b s (M/2^z) (xe+(z:Int)):=fun W hT=>
 AL E F B b ex fr s M z xe W h0 HB hB hW hT
theorem xZ{s:Bool}{m:Nat}{x:Int}(hA:jS s m x){i j:Nat}(hi:max x 0=(i:Int))(hj:max (-x) 0=(j:Int))(hV:¬Over (m*2^i))(hM:¬Over (1*2^j))(W:World)(A:Option Addr)(N C:Nat)(g:Num W A N m) :
  Calls Tryz.prog 24 #[.agg #[.bool s,.slice A N C,.int .i64 x]] W fun e w'=>(∃A N C A' N' C',e = .returned (.tuple #[.agg #[.bool s,.slice A N C,.slice A' N' C'],.int .i64 0])∧Mine w' W.heap.size A N C (m*2^i)∧Mine w' W.heap.size A' N' C' (1*2^j))∧Below W.heap.size W w':=by
 have hx:-1073741824≤x∧x≤1073741824:=by
  rcases hA with ⟨_,_,h⟩|⟨_,h⟩
  ·omega
  ·exact h
 have up:∀{u t:Nat},¬Over (u*2^t)→t<9223372036854775808→∀(W:World)(A:Option Addr)(N C:Nat),Num W A N u→Calls Tryz.prog 63 #[.agg #[.slice A N C],.int .i64 (t:Int)] W fun en W'=>(∃a n c,en = .returned (.tuple #[.agg #[.slice a n c],.int .i64 0])∧Mine W' W.heap.size a n c (u*2^t))∧Below W.heap.size W W':=fun hn ht W A N C g=>by
  refine (qZ A N C _ _ W g ht).mono ?_;rintro e w' ⟨h1,hb⟩;rcases h1 with h1|⟨_,h1⟩
  ·exact ⟨h1,hb⟩
  ·exact absurd h1 hn
 exact G8 W s A N C m x i j _ _ g hx hi hj (hide fun W A N C g=>iK s A N C m x W ⟨g,hA⟩) (hide (up hV (by omega))) (hide (up hM (by omega)))
def u7(w:World)(p k:Nat)(e:Int):Prop:=∃cs t,w.heap[p]? = some (.cells cs t (0,0))∧cs[k]? = some (.int .i64 e)
theorem u7.kept{w w':World}{p k:Nat}{e:Int}(h:u7 w p k e)(hb:Below w.heap.size w w'):u7 w' p k e:=by
 obtain ⟨cs,t,h1,h2⟩:=h;exact ⟨cs,t,by rw [hb.block _ (block_lt h1)];exact h1,h2⟩
theorem iN(p k:Nat)(er c:Int)(hc:er=0→c=0)(w:World)(h:u7 w p k er) :
  Calls Tryz.prog 61 #[.pointer (some ⟨p,k,none⟩),.int .i64 c] w fun en w'=>en = .returned (.tuple #[])∧Below w.heap.size w w':=by
 by_cases he:er=0
 ·obtain rfl:=hc he;subst he;exact lS p k w h
 ·obtain ⟨cs,t,h1,h2⟩:=h;have c1:w.cell? ⟨p,k,none⟩=some (.int .i64 er):=by rw [cell_of_row w p k _ _ _ h1];exact h2
  have hb0:(er==0)=false:=by simp [he]
  clear h1 h2 he;go_enter Tryz.func61,Tryz.ntmps61
  go_wp2
  go_end0
  exact ⟨rfl,Below.refl _ _⟩
theorem dZ(p k:Nat)(er c:Int)(hc:er=0→c=0)(s:Bool)(a:Option Addr)(n cap:Nat)(x:Int)(w:World)(h:u7 w p k er) :
  Calls Tryz.prog 56 #[.pointer (some ⟨p,k,none⟩),.agg #[.bool s,.slice a n cap,.int .i64 x],.int .i64 c] w fun e w'=>e = .returned (.agg #[.bool s,.slice a n cap,.int .i64 x])∧Below w.heap.size w w':=by
 have H:=hide h;clear h;go_enter Tryz.func56,Tryz.ntmps56
 go_wp2_with fail
 refine (iN p k er c hc _ ((aa H).kept (Fs.two w _ _ _ _).fr)).mono ?_;rintro e w1 ⟨rfl,hb1⟩;have hS:=(Fs.two w _ _ _ _).kept hb1;obtain ⟨⟨ya,yb,yc,-⟩,⟨yd,ye,yf,-⟩,-⟩:=hS.cells;have Q_:=hS.frozen (b:=w.heap.size+1) (cs:=#[.bool false,.slice none 0 0,.int .i64 0]) (t:=58) (by simp);have fz0:=Q_ 0;have fz1:=Q_ 1;have fz2:=Q_ 2;clear Q_;go_wp2
 exact bodyPost_ret (v:=.agg #[.bool s,.slice a n cap,.int .i64 x]) (by simp [results,Tryz.results56,go_sem,yd,ye,yf]) rfl ⟨rfl,((hS.fr.setCell (by simp<;>omega) _).setCell (by simp<;>omega) _).setCell (by simp<;>omega) _⟩
theorem jd(p k:Nat)(er c:Int)(hc:er=0→c=0)(s:Bool)(a:Option Addr)(n cap:Nat)(a':Option Addr)(n' cap':Nat)(w:World)(h:u7 w p k er) :
  Calls Tryz.prog 23 #[.pointer (some ⟨p,k,none⟩),.agg #[.bool s,.slice a n cap,.slice a' n' cap'],.int .i64 c] w fun e w'=>e = .returned (.agg #[.bool s,.slice a n cap,.slice a' n' cap'])∧Below w.heap.size w w':=by
 have H:=hide h;clear h;go_enter Tryz.func23,Tryz.ntmps23
 go_wp2_with fail
 refine (iN p k er c hc _ ((aa H).kept (Fs.two w _ _ _ _).fr)).mono ?_;rintro e w1 ⟨rfl,hb1⟩;have hS:=(Fs.two w _ _ _ _).kept hb1;obtain ⟨⟨ya,yb,yc,-⟩,⟨yd,ye,yf,-⟩,-⟩:=hS.cells;have Q_:=hS.frozen (b:=w.heap.size+1) (cs:=#[.bool false,.slice none 0 0,.slice none 0 0]) (t:=29) (by simp);have fz0:=Q_ 0;have fz1:=Q_ 1;have fz2:=Q_ 2;clear Q_;go_wp2
 exact bodyPost_ret (v:=.agg #[.bool s,.slice a n cap,.slice a' n' cap']) (by simp [results,Tryz.results23,go_sem,yd,ye,yf]) rfl ⟨rfl,((hS.fr.setCell (by simp<;>omega) _).setCell (by simp<;>omega) _).setCell (by simp<;>omega) _⟩
theorem D9(p k:Nat)(e:Int)(cs:Array Value)(t:TypeId)(w:World)(h:w.heap[p]? = some (.cells cs t (0,0)))(hk:cs[k]? = some (.int .i64 0)) :
  Calls Tryz.prog 61 #[.pointer (some ⟨p,k,none⟩),.int .i64 e] w fun en w'=>en = .returned (.tuple #[])∧w'=w.setCell ⟨p,k,none⟩ (.int .i64 e):=by
 have hc:w.cell? ⟨p,k,none⟩=some (.int .i64 0):=by rw [cell_of_row w p k _ _ _ h];exact hk
 have hf:w.frozen? ⟨p,k,none⟩=false:=frozen_of_row w p k _ _ h;go_enter Tryz.func61,Tryz.ntmps61
 go_wp2
 go_end0
 exact ⟨rfl,rfl⟩
theorem rJ(p k:Nat)(e:Int)(cs:Array Value)(t:TypeId)(s:Bool)(a:Option Addr)(n c:Nat)(x:Int)(w:World)(h:w.heap[p]? = some (.cells cs t (0,0)))(hk:cs[k]? = some (.int .i64 0)) :
  Calls Tryz.prog 56 #[.pointer (some ⟨p,k,none⟩),.agg #[.bool s,.slice a n c,.int .i64 x],.int .i64 e] w fun en w'=>en = .returned (.agg #[.bool s,.slice a n c,.int .i64 x])∧Below w.heap.size (w.setCell ⟨p,k,none⟩ (.int .i64 e)) w':=by
 have hlt:=block_lt h;obtain ⟨V,hV⟩:∃V,V=w.setCell ⟨p,k,none⟩ (.int .i64 e):=⟨_,rfl⟩;have hsz:(w.setCell ⟨p,k,none⟩ (.int .i64 e)).heap.size=w.heap.size:=by simp
 have H2:Hid (((w.alloc (.cells #[.bool s,.slice a n c,.int .i64 x] 58)).alloc (.cells #[.bool false,.slice none 0 0,.int .i64 0] 58)).heap[p]? = some (.cells cs t (0,0))):=by
  refine hide ?_;rw [(ai (ah w _) (ah _ _)).block p hlt];exact h
 have HW:Hid (((w.alloc (.cells #[.bool s,.slice a n c,.int .i64 x] 58)).alloc (.cells #[.bool false,.slice none 0 0,.int .i64 0] 58)).setCell ⟨p,k,none⟩ (.int .i64 e)=(V.alloc (.cells #[.bool s,.slice a n c,.int .i64 x] 58)).alloc (.cells #[.bool false,.slice none 0 0,.int .i64 0] 58)):=by
  refine hide ?_;rw [World.setCell_alloc_past _ p k _ (by simp;omega),World.setCell_alloc_past _ p k _ hlt,hV]
 clear h;go_enter Tryz.func56,Tryz.ntmps56
 go_wp2_with fail
 refine (D9 p k e cs t _ (aa H2) hk).mono ?_;rintro e1 w1 ⟨rfl,rfl⟩;rw [aa HW];rw [←hV] at hsz;have hS:=Fs.two V #[.bool s,.slice a n c,.int .i64 x] 58 #[.bool false,.slice none 0 0,.int .i64 0] 58;rw [hsz] at hS;obtain ⟨⟨ya,yb,yc,-⟩,⟨yd,ye,yf,-⟩,-⟩:=hS.cells;have Q_:=hS.frozen (b:=w.heap.size+1) (cs:=#[.bool false,.slice none 0 0,.int .i64 0]) (t:=58) (by simp);have fz0:=Q_ 0;have fz1:=Q_ 1;have fz2:=Q_ 2;clear Q_;go_wp2
 have hfr:=ai (ah V (.cells #[.bool s,.slice a n c,.int .i64 x] 58)) (ah _ (.cells #[.bool s,.slice a n c,.int .i64 x] 58));rw [hsz] at hfr;exact bodyPost_ret (v:=.agg #[.bool s,.slice a n c,.int .i64 x]) (by simp [results,Tryz.results56,go_sem]) rfl ⟨rfl,by rw [←hV];exact hfr⟩
theorem oI{p:Nat}{w W:World}{E:Int}{cs:List Value}{t:TypeId}(h:Tb w)(hp:w.heap[p]? = some (.cells ⟨.int .i64 E::cs⟩ t (0,0)))(hb:bJ p w W):Tb W:=by
 have hne:1≠p:=fun e=>by
  have h1:=h.2 0 (by decide);rw [e,cell_of_row w p 0 _ _ _ hp] at h1;cases h1
 have hbl:=hb.block _ h.1 hne;refine ⟨Nat.lt_of_lt_of_le h.1 hb.size,fun j hj=>?_⟩;rw [←h.2 j hj];unfold World.cell?;simp only [hbl]
theorem I8{P:Program}{fn:FuncId}{args:Array Value}{W:World}{b off m m':Nat}{f:Value→Value→Value}{xs:List Value}(h:Calls P fn args W fun en W'=>(∃a n c a' n' c',en = .returned (f (.slice a n c) (.slice a' n' c'))∧Mine W' 0 a n c m∧Mine W' 0 a' n' c' m')∧Below W.heap.size (evs (bG b off xs) W) W'):Calls P fn args W fun en W'=>∃q,en = .returned ((cH 0 m m' f).f q)∧((fun _:Pq=>xs) q).length=xs.length∧Below W.heap.size (evs (bG b off ((fun _:Pq=>xs) q)) W) W'∧(cH 0 m m' f).g q W':=
 h.mono fun _ _ ⟨⟨a,n,c,a',n',c',h1,h3,h4⟩,h2⟩=>⟨{ iH with A:=a,N:=n,C:=c,A':=a',N':=n',C':=c' },h1,rfl,h2,h3,h4⟩
theorem He(E F b:Int)(s0:Bool)(m:Nat)(x:Int)(s1:Bool)(ex fr lo hi mx k:Int)(w:World)(hT:Tb w)(HV:Hid (pq E F b s0 m x))(HP:bf 7 #[.agg #[.int .i64 E,.int .i64 F],.int .u64 b] (.tuple #[.agg #[.bool s1,.int .i64 ex,.int .u64 fr],.int .i64 0]))(HG:bf 52 #[.agg #[.int .i64 E,.int .i64 F]] (.tuple #[.int .i64 lo,.int .i64 hi,.int .i64 0]))(hmx:max ex 1=mx)(hk:lo+mx-1=k)(hlo:-100000≤lo∧lo≤100000)(hmx2:0≤mx∧mx≤100000)(HK:Hid (zG false k)) :
  Calls Tryz.prog 19 #[.agg #[.int .i64 E,.int .i64 F],.int .u64 b] w fun e w'=>(∃A N C,e = .returned (.tuple #[.agg #[.bool false,.slice A N C,.int .i64 k],.int .i64 0])∧Mine w' w.heap.size A N C 1)∧Below w.heap.size w w':=by
 have HT:=hide hT;clear hT;go_enter Tryz.func19,Tryz.ntmps19
 go_wp2_with fail
 refine (aa HV _ ((aa HT).kept (Fs.two w _ _ _ _).fr)).mono ?_;rintro e w1 ⟨⟨A1,N1,C1,rfl,f1⟩,hb1⟩;have hS:=(Fs.two w _ _ _ _).kept hb1;obtain ⟨⟨ya,yb,-⟩,⟨yc,yd,ye,-⟩,-⟩:=hS.cells;clear f1;have hltw1_0:w.heap.size<w1.heap.size:=hS.lt 0 rfl;have hltw1_1:w.heap.size+1<w1.heap.size:=hS.lt 1 rfl;replace hS:=hS.alloc #[.bool s0,.slice A1 N1 C1,.int .i64 x] 58;clear ya yb yc yd ye;obtain ⟨⟨yf,yg,yh,-⟩,⟨yi,yj,-⟩,⟨yk,yl,ym,-⟩,-⟩:=hS.cells;go_wp2_with fail
 refine (HP _).mono ?_;rintro e w2 ⟨rfl,hb2⟩;replace hS:=hS.kept hb2;clear yf yg yh yi yj yk yl ym;obtain ⟨⟨yn,yo,yp,-⟩,⟨yq,yr,-⟩,⟨ys,yt,yu,-⟩,-⟩:=hS.cells;have hltw2_0:w1.heap.size<w2.heap.size:=hS.lt 0 rfl;have hltw2_1:w.heap.size<w2.heap.size:=hS.lt 1 rfl;have hltw2_2:w.heap.size+1<w2.heap.size:=hS.lt 2 rfl;replace hS:=hS.alloc #[.bool s1,.int .i64 ex,.int .u64 fr] 35;clear yn yo yp yq yr ys yt yu;obtain ⟨⟨yv,yw,yx,-⟩,⟨yy,yz,y0,-⟩,⟨y1,y2,-⟩,⟨y3,y4,y5,-⟩,-⟩:=hS.cells;go_wp2_with fail
 refine (HG _).mono ?_;rintro e w3 ⟨rfl,hb3⟩;replace hS:=hS.kept hb3;clear yv yw yx yy yz y0 y1 y2 y3 y4 y5;obtain ⟨⟨y6,y7,y8,-⟩,⟨y9,yba,ybb,-⟩,⟨ybc,ybd,-⟩,⟨ybe,ybf,ybg,-⟩,-⟩:=hS.cells;have hltw3_0:w2.heap.size<w3.heap.size:=hS.lt 0 rfl;have hltw3_1:w1.heap.size<w3.heap.size:=hS.lt 1 rfl;have hltw3_2:w.heap.size<w3.heap.size:=hS.lt 2 rfl;have hltw3_3:w.heap.size+1<w3.heap.size:=hS.lt 3 rfl;go_wp2_with fail
 have hS3s:w.heap.size≤w3.heap.size:=hS.size;have hs9:∀x9:Nat×(Pk→World→Prop),x9∈([(0,fun q W=>Mine W (w.heap.size+2) q.A q.N q.C 1),(7,fun q W=>Mine W (w.heap.size+2) q.A q.N q.C (1))]:List (Nat×(Pk→World→Prop)))→∀q9:Pk,St (w.heap.size+2) (x9.2 q9):=by
  intro x hx q;simp only [List.mem_cons,List.not_mem_nil,or_false] at hx;rcases hx with rfl|rfl
  ·exact pO _ _ _ _ _
  ·exact pO _ _ _ _ _
 have h09:∀x9:Nat×(Pk→World→Prop),x9∈([(0,fun q W=>Mine W (w.heap.size+2) q.A q.N q.C 1),(7,fun q W=>Mine W (w.heap.size+2) q.A q.N q.C (1))]:List (Nat×(Pk→World→Prop)))→12≤x9.1→x9.2 ⟨none,0,0⟩ w3:=by
  intro x hx hn9;simp only [List.mem_cons,List.not_mem_nil,or_false] at hx;rcases hx with rfl|rfl
  ·exact absurd hn9 (by simp)
  ·exact absurd hn9 (by simp)
 refine wp_region_any (by kernel_rfl) ?_;refine nS (fun p9=>[some (35,.agg #[.slice (p9 0).A (p9 0).N (p9 0).C]),some (36,.int .i64 lo),some (37,.pointer (some ⟨w2.heap.size,1,none⟩)),some (38,.int .i64 ex),some (39,.int .i64 mx),some (40,.int .i64 (lo+mx)),some (41,.int .i64 k),some (42,.tuple #[.agg #[.bool false,.slice (p9 7).A (p9 7).N (p9 7).C,.int .i64 k],.int .i64 0]),some (43,.agg #[.bool false,.slice (p9 7).A (p9 7).N (p9 7).C,.int .i64 k]),some (44,.int .i64 0),none,some (5,.int .i64 0)])
  (fun p9 l9 W9=>Pm w (w.heap.size+2) [(0,fun q W=>Mine W (w.heap.size+2) q.A q.N q.C 1),(7,fun q W=>Mine W (w.heap.size+2) q.A q.N q.C (1))] p9 l9 W9 (aS l9 [(10,[⟨w2.heap.size,#[.bool s1,.int .i64 ex,.int .u64 fr],35⟩,⟨w1.heap.size,#[.bool s0,.slice A1 N1 C1,.int .i64 x],58⟩,⟨w.heap.size,#[.int .i64 E,.int .i64 F],23⟩,⟨w.heap.size+1,#[.bool false,.slice (p9 7).A (p9 7).N (p9 7).C,.int .i64 k],58⟩])] [⟨w2.heap.size,#[.bool s1,.int .i64 ex,.int .u64 fr],35⟩,⟨w1.heap.size,#[.bool s0,.slice A1 N1 C1,.int .i64 x],58⟩,⟨w.heap.size,#[.int .i64 E,.int .i64 F],23⟩,⟨w.heap.size+1,#[.bool false,.slice none 0 0,.int .i64 0],58⟩])) _ _ (fun _=>rfl) (by kernel_rfl) (fun _=>rfl) (fun _=>rfl) ?_ ?_ (fun _=>⟨none,0,0⟩) (Pm.start2 hS _ _ _ (by omega) hs9 h09)
 ·intro p9 l9 t9 W9 i9 hD hi9 hl9 hM;obtain ⟨o9,ho9,hd9⟩:=(mem_ready.1 hi9).2;have hin9:i9<12:=by
   by_cases h:i9<12
   ·exact h
   ·rw [Array.getElem?_eq_none (by rw [hD.len];simp;omega)] at hl9;cases hl9
  have hcase:i9=0∨i9=1∨i9=2∨i9=3∨i9=4∨i9=5∨i9=6∨i9=7∨i9=8∨i9=9∨i9=10∨i9=11:=by omega
  clear hin9;rcases hcase with rfl|rfl|rfl|rfl|rfl|rfl|rfl|rfl|rfl|rfl|rfl|rfl
  ·cases ho9;have hM0:Fs w W9 [⟨w2.heap.size,#[.bool s1,.int .i64 ex,.int .u64 fr],35⟩,⟨w1.heap.size,#[.bool s0,.slice A1 N1 C1,.int .i64 x],58⟩,⟨w.heap.size,#[.int .i64 E,.int .i64 F],23⟩,⟨w.heap.size+1,#[.bool false,.slice none 0 0,.int .i64 0],58⟩]:=by
    have hM1:=hM.st;simp only [aS] at hM1;rw [if_neg (hD.waits 0 10 _ ⟨0,.phase⟩ hl9 rfl (by simp) rfl rfl)] at hM1;exact hM1
   have HD:=hide hD;have hn10:=hD.waits 0 10 _ ⟨0,.phase⟩ hl9 rfl (by simp) rfl rfl;refine wpOp_step rfl fun K hK=>?_;go_simp
   go_wp2_with fail
   refine (pV _).mono ?_;rintro en w9 ⟨⟨a9,n9,c9,rfl,h9⟩,hb9⟩;refine hK _ _ ⟨p9.set 0 ⟨a9,n9,c9⟩,?_,rfl,(Pm.keepM rfl (((hM.kept hs9 hb9).pick ⟨a9,n9,c9⟩ ?_).into (by simp only [aS];rw [if_neg hn10,if_neg hn10])))⟩
   ·intro k9 hk9;clear hM hK
    match k9,hk9 with
    | 0,hk9=>exact absurd (hl9.symm.trans hk9) (by simp)
    | 1,_=>rfl
    | 2,_=>rfl
    | 3,_=>rfl
    | 4,_=>rfl
    | 5,_=>rfl
    | 6,_=>rfl
    | 7,hk9=>exact absurd (hl9.symm.trans (ak ((aa HD).shut 7 _ (hk9) rfl ⟨0,.data⟩ (by simp) rfl))) (by simp)
    | 8,hk9=>exact absurd (hl9.symm.trans (ak ((aa HD).shut 7 _ (ak ((aa HD).shut 8 _ (hk9) rfl ⟨7,.data⟩ (by simp) rfl)) rfl ⟨0,.data⟩ (by simp) rfl))) (by simp)
    | 9,hk9=>exact absurd (hl9.symm.trans (ak ((aa HD).shut 7 _ (ak ((aa HD).shut 9 _ (hk9) rfl ⟨7,.data⟩ (by simp) rfl)) rfl ⟨0,.data⟩ (by simp) rfl))) (by simp)
    | 10,hk9=>exact absurd (hl9.symm.trans (ak ((aa HD).shut 10 _ (hk9) rfl ⟨0,.phase⟩ (by simp) rfl))) (by simp)
    | 11,hk9=>exact absurd (hl9.symm.trans (ak ((aa HD).shut 11 _ (hk9) rfl ⟨0,.phase⟩ (by simp) rfl))) (by simp)
    | k9+12,_=>rfl
   ·intro x hx he;simp only [List.mem_cons,List.not_mem_nil,or_false] at hx;rcases hx with rfl|rfl
    ·exact h9.mono hM.bw
    ·exact absurd he (by simp)
  ·cases ho9;have r10:=hD.old 10 _ rfl rfl;refine wpOp_step rfl fun K hK=>?_;go_simp
   exact hK _ _ ⟨p9,fun _ _=>rfl,rfl,(Pm.keepM rfl (hM.val rfl))⟩
  ·cases ho9;have r8:=hD.old 8 _ rfl rfl;refine wpOp_step rfl fun K hK=>?_;go_simp
   exact hK _ _ ⟨p9,fun _ _=>rfl,rfl,(Pm.keepM rfl (hM.val rfl))⟩
  ·cases ho9;have r37:=hD.od hd9 2 37 _ rfl (by simp);have hM0:Fs w W9 [⟨w2.heap.size,#[.bool s1,.int .i64 ex,.int .u64 fr],35⟩,⟨w1.heap.size,#[.bool s0,.slice A1 N1 C1,.int .i64 x],58⟩,⟨w.heap.size,#[.int .i64 E,.int .i64 F],23⟩,⟨w.heap.size+1,#[.bool false,.slice none 0 0,.int .i64 0],58⟩]:=by
    have hM1:=hM.st;simp only [aS] at hM1;rw [if_neg (hD.waits 3 10 _ ⟨3,.phase⟩ hl9 rfl (by simp) rfl rfl)] at hM1;exact hM1
   have c9_0:=hM0.cellAt (b:=w2.heap.size) (cs:=#[.bool s1,.int .i64 ex,.int .u64 fr]) (t:=35) (by simp) 1 _ rfl;clear hM0;refine wpOp_step rfl fun K hK=>?_;go_simp
   exact hK _ _ ⟨p9,fun _ _=>rfl,rfl,(Pm.keepM rfl (hM.val rfl))⟩
  ·cases ho9;have r38:=hD.od hd9 3 38 _ rfl (by simp);refine wpOp_step rfl fun K hK=>?_;go_simp
   exact hK _ _ ⟨p9,fun _ _=>rfl,aU (by first|rfl|(rw [←hmx];rfl)|(simp [hmx])),(Pm.keepM rfl (hM.val rfl))⟩
  ·cases ho9;have r36:=hD.od hd9 1 36 _ rfl (by simp);have r39:=hD.od hd9 4 39 _ rfl (by simp);refine wpOp_step rfl fun K hK=>?_;go_simp
   exact hK _ _ ⟨p9,fun _ _=>rfl,aU (by (show Value.int _ _=Value.int _ _;congr 1;(first|rfl|omega|(rw [IntKind.wrap_i64];omega)|(rw [IntKind.wrap_u64];omega)))),(Pm.keepM rfl (hM.val rfl))⟩
  ·cases ho9;have r40:=hD.od hd9 5 40 _ rfl (by simp);refine wpOp_step rfl fun K hK=>?_;go_simp
   exact hK _ _ ⟨p9,fun _ _=>rfl,aU (by first|rfl|(show Value.int _ _=Value.int _ _;congr 1;first|exact hk|(rw [IntKind.wrap_i64];omega))),(Pm.keepM rfl (hM.val rfl))⟩
  ·cases ho9;have r35:=hD.od hd9 0 35 _ rfl (by simp);have r41:=hD.od hd9 6 41 _ rfl (by simp);have g0:=hM.fx _ (List.mem_of_getElem? (i:=0) rfl) (Or.inl (ak (hd9 ⟨0,.data⟩ (by simp) rfl)));simp only [] at g0;have hM0:Fs w W9 [⟨w2.heap.size,#[.bool s1,.int .i64 ex,.int .u64 fr],35⟩,⟨w1.heap.size,#[.bool s0,.slice A1 N1 C1,.int .i64 x],58⟩,⟨w.heap.size,#[.int .i64 E,.int .i64 F],23⟩,⟨w.heap.size+1,#[.bool false,.slice none 0 0,.int .i64 0],58⟩]:=by
    have hM1:=hM.st;simp only [aS] at hM1;rw [if_neg (hD.waits 7 10 _ ⟨7,.chain⟩ hl9 rfl (by simp) rfl rfl)] at hM1;exact hM1
   have HD:=hide hD;have hn10:=hD.waits 7 10 _ ⟨7,.chain⟩ hl9 rfl (by simp) rfl rfl;refine wpOp_step rfl fun K hK=>?_;go_simp
   go_wp2_with fail
   refine (aa HK _ _ _ _ _ g0 ((aa HT).kept hM.st.fr)).mono ?_;rintro en w9 ⟨⟨a9,n9,c9,rfl,h9⟩,hb9⟩;refine hK _ _ ⟨p9.set 7 ⟨a9,n9,c9⟩,?_,rfl,(Pm.keepM rfl (((hM.kept hs9 hb9).pick ⟨a9,n9,c9⟩ ?_).into (by simp only [aS];rw [if_neg hn10,if_neg hn10])))⟩
   ·intro k9 hk9;clear hM hK
    match k9,hk9 with
    | 0,_=>rfl
    | 1,_=>rfl
    | 2,_=>rfl
    | 3,_=>rfl
    | 4,_=>rfl
    | 5,_=>rfl
    | 6,_=>rfl
    | 7,hk9=>exact absurd (hl9.symm.trans hk9) (by simp)
    | 8,hk9=>exact absurd (hl9.symm.trans (ak ((aa HD).shut 8 _ (hk9) rfl ⟨7,.data⟩ (by simp) rfl))) (by simp)
    | 9,hk9=>exact absurd (hl9.symm.trans (ak ((aa HD).shut 9 _ (hk9) rfl ⟨7,.data⟩ (by simp) rfl))) (by simp)
    | 10,hk9=>exact absurd (hl9.symm.trans (ak ((aa HD).shut 10 _ (hk9) rfl ⟨7,.chain⟩ (by simp) rfl))) (by simp)
    | 11,hk9=>exact absurd (hl9.symm.trans (ak ((aa HD).shut 11 _ (hk9) rfl ⟨7,.phase⟩ (by simp) rfl))) (by simp)
    | k9+12,_=>rfl
   ·intro x hx he;simp only [List.mem_cons,List.not_mem_nil,or_false] at hx;rcases hx with rfl|rfl
    ·exact absurd he (by simp)
    ·exact h9.mono hM.bw
  ·cases ho9;have r42:=hD.od hd9 7 42 _ rfl (by simp);refine wpOp_step rfl fun K hK=>?_;go_simp
   exact hK _ _ ⟨p9,fun _ _=>rfl,rfl,(Pm.keepM rfl (hM.val rfl))⟩
  ·cases ho9;have r42:=hD.od hd9 7 42 _ rfl (by simp);refine wpOp_step rfl fun K hK=>?_;go_simp
   exact hK _ _ ⟨p9,fun _ _=>rfl,rfl,(Pm.keepM rfl (hM.val rfl))⟩
  ·cases ho9;have r4:=hD.old 4 _ rfl rfl;have r43:=hD.od hd9 8 43 _ rfl (by simp);have hM0:Fs w W9 [⟨w2.heap.size,#[.bool s1,.int .i64 ex,.int .u64 fr],35⟩,⟨w1.heap.size,#[.bool s0,.slice A1 N1 C1,.int .i64 x],58⟩,⟨w.heap.size,#[.int .i64 E,.int .i64 F],23⟩,⟨w.heap.size+1,#[.bool false,.slice none 0 0,.int .i64 0],58⟩]:=by
    have hM1:=hM.st;simp only [aS] at hM1;rw [if_neg (by rw [hl9];simp)] at hM1;exact hM1
   have c9_0:=hM0.cellAt (b:=w.heap.size+1) (cs:=#[.bool false,.slice none 0 0,.int .i64 0]) (t:=58) (by simp) 0 _ rfl;have z9_0:=hM0.frozen (b:=w.heap.size+1) (cs:=#[.bool false,.slice none 0 0,.int .i64 0]) (t:=58) (by simp) 0;have c9_1:=hM0.cellAt (b:=w.heap.size+1) (cs:=#[.bool false,.slice none 0 0,.int .i64 0]) (t:=58) (by simp) 1 _ rfl;have z9_1:=hM0.frozen (b:=w.heap.size+1) (cs:=#[.bool false,.slice none 0 0,.int .i64 0]) (t:=58) (by simp) 1;have c9_2:=hM0.cellAt (b:=w.heap.size+1) (cs:=#[.bool false,.slice none 0 0,.int .i64 0]) (t:=58) (by simp) 2 _ rfl;have z9_2:=hM0.frozen (b:=w.heap.size+1) (cs:=#[.bool false,.slice none 0 0,.int .i64 0]) (t:=58) (by simp) 2;refine wpOp_step rfl fun K hK=>?_;go_simp
   exact hK _ _ ⟨p9,fun _ _=>rfl,rfl,Pm.putM hl9 ((((hM.val rfl).put hs9 _ _ (by simp<;>omega) (hM0.put (b:=w.heap.size+1) (cs:=#[.bool false,.slice none 0 0,.int .i64 0]) (t:=58) (by simp) (by simp) 0 (.bool false) [⟨w2.heap.size,#[.bool s1,.int .i64 ex,.int .u64 fr],35⟩,⟨w1.heap.size,#[.bool s0,.slice A1 N1 C1,.int .i64 x],58⟩,⟨w.heap.size,#[.int .i64 E,.int .i64 F],23⟩,⟨w.heap.size+1,#[.bool false,.slice none 0 0,.int .i64 0],58⟩] (by simp<;>omega))).put hs9 _ _ (by simp<;>omega) ((hM0.put (b:=w.heap.size+1) (cs:=#[.bool false,.slice none 0 0,.int .i64 0]) (t:=58) (by simp) (by simp) 0 (.bool false) [⟨w2.heap.size,#[.bool s1,.int .i64 ex,.int .u64 fr],35⟩,⟨w1.heap.size,#[.bool s0,.slice A1 N1 C1,.int .i64 x],58⟩,⟨w.heap.size,#[.int .i64 E,.int .i64 F],23⟩,⟨w.heap.size+1,#[.bool false,.slice none 0 0,.int .i64 0],58⟩] (by simp<;>omega)).put (b:=w.heap.size+1) (cs:=#[.bool false,.slice none 0 0,.int .i64 0]) (t:=58) (by simp) (by simp) 1 (.slice (p9 7).A (p9 7).N (p9 7).C) [⟨w2.heap.size,#[.bool s1,.int .i64 ex,.int .u64 fr],35⟩,⟨w1.heap.size,#[.bool s0,.slice A1 N1 C1,.int .i64 x],58⟩,⟨w.heap.size,#[.int .i64 E,.int .i64 F],23⟩,⟨w.heap.size+1,#[.bool false,.slice (p9 7).A (p9 7).N (p9 7).C,.int .i64 0],58⟩] (by simp<;>omega))).put hs9 _ _ (by simp<;>omega) (((hM0.put (b:=w.heap.size+1) (cs:=#[.bool false,.slice none 0 0,.int .i64 0]) (t:=58) (by simp) (by simp) 0 (.bool false) [⟨w2.heap.size,#[.bool s1,.int .i64 ex,.int .u64 fr],35⟩,⟨w1.heap.size,#[.bool s0,.slice A1 N1 C1,.int .i64 x],58⟩,⟨w.heap.size,#[.int .i64 E,.int .i64 F],23⟩,⟨w.heap.size+1,#[.bool false,.slice none 0 0,.int .i64 0],58⟩] (by simp<;>omega)).put (b:=w.heap.size+1) (cs:=#[.bool false,.slice none 0 0,.int .i64 0]) (t:=58) (by simp) (by simp) 1 (.slice (p9 7).A (p9 7).N (p9 7).C) [⟨w2.heap.size,#[.bool s1,.int .i64 ex,.int .u64 fr],35⟩,⟨w1.heap.size,#[.bool s0,.slice A1 N1 C1,.int .i64 x],58⟩,⟨w.heap.size,#[.int .i64 E,.int .i64 F],23⟩,⟨w.heap.size+1,#[.bool false,.slice (p9 7).A (p9 7).N (p9 7).C,.int .i64 0],58⟩] (by simp<;>omega)).put (b:=w.heap.size+1) (cs:=#[.bool false,.slice (p9 7).A (p9 7).N (p9 7).C,.int .i64 0]) (t:=58) (by simp) (by simp) 2 (.int .i64 k) [⟨w2.heap.size,#[.bool s1,.int .i64 ex,.int .u64 fr],35⟩,⟨w1.heap.size,#[.bool s0,.slice A1 N1 C1,.int .i64 x],58⟩,⟨w.heap.size,#[.int .i64 E,.int .i64 F],23⟩,⟨w.heap.size+1,#[.bool false,.slice (p9 7).A (p9 7).N (p9 7).C,.int .i64 k],58⟩] (by simp<;>omega)))⟩
  ·cases ho9;have r44:=hD.od hd9 9 44 _ rfl (by simp);refine wpOp_step rfl fun K hK=>?_;go_simp
   exact hK _ _ ⟨p9,fun _ _=>rfl,rfl,(Pm.keepM rfl (hM.val rfl))⟩
 ·intro p9 l9 W9 hn9 hl9 hM;have fr6_0:=hM.fx _ (List.mem_of_getElem? (i:=0) rfl) (Or.inl (hl9 0 (by decide)));have fr6_7:=hM.fx _ (List.mem_of_getElem? (i:=1) rfl) (Or.inl (hl9 7 (by decide)));replace hM:=hM.st;simp only [aS] at hM;rw [if_pos (hl9 10 (by decide))] at hM;clear hl9 hs9 h09 hn9;generalize p9 0=q0 at *;obtain ⟨Ar6_0,Nr6_0,Cr6_0⟩:=q0;simp only [] at fr6_0;generalize p9 7=q7 at *;obtain ⟨Ar6_7,Nr6_7,Cr6_7⟩:=q7;simp only [] at fr6_7;clear hS y6 y7 y8 y9 yba ybb ybc ybd ybe ybf ybg;have hS:=hM;clear hM;simp only [ay.lay,List.setIfInBounds_toArray,List.set_cons_zero,List.set_cons_succ];obtain ⟨⟨ybh,ybi,ybj,-⟩,⟨ybk,ybl,ybm,-⟩,⟨ybn,ybo,-⟩,⟨ybp,ybq,ybr,-⟩,-⟩:=hS.cells;go_wp2
  exact bodyPost_ret (v:=.tuple #[.agg #[.bool false,.slice Ar6_7 Nr6_7 Cr6_7,.int .i64 k],.int .i64 0]) (by simp [results,Tryz.results19,go_sem,ybp,ybq,ybr]) rfl ⟨⟨_,_,_,rfl,Mine.mono (show Mine W9 _ _ _ _ _ from aa fr6_7) (by omega)⟩,hS.fr⟩
end Go.Proofs.YtaidedkpfnidpaaGreatDoor
