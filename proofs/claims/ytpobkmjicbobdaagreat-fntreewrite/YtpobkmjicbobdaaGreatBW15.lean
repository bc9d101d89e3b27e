/- Walks. -/
import Derived.Test.YtpobkmjicbobdaaGreatBW12
import Derived.Test.YtpobkmjicbobdaaGreatBW14
namespace Go.Proofs.YtpobkmjicbobdaaGreat
set_option maxRecDepth 100000
set_option maxHeartbeats 40000000
open Go.RowKit
variable {A B C:List af} {K L M:List ac} {P:List (List ac)} {S:List Int} {V:List (List af)} {ak am:Option Addr} {b1 b2 b3 base ck cm hi hi' i lo lo' n nk nm ns nv:Nat} {bs gs:Nat→Nat} {es:Nat→Nat→Nat} {q:Int} {v:Value} {vs xs:List Value} {w w':World}
def jP (q:Int) (M:List ac) (V:List (List af)) (S:List Int):List ac:=if aP q M V S then aS (eZ M V).flatten else []
theorem iJ (h:aP q M [A,B,C] S=true):f6 (dq M A B C).flatten:=by
 have h1:=((lj q M A B C S).1 h).2.2.2.2.2.2;refine ((lF q _).1 h1).1.imp ?_;intro x y ho e;have:=ho e.1;omega
theorem ly (B:List af):(B.reverse.map (·.1)).flatten.Perm (aW B):=by
 unfold aW;rw [List.flatMap_def];exact ((List.reverse_perm B).map _).flatten
theorem gG (M:List ac) (A B C:List af):(dq M A B C).flatten.Perm (M++(aW A++(aW B++aW C))):=by
 unfold dq;simp only [Ip,IJ];exact (((ly A).append ((ly B).append (ly C)))).append_left _
theorem parts_flat (M:List ac) (A B C:List af):(eZ M [A,B,C]).flatten.Perm (M++(aW A++(aW B++aW C))):=by
 unfold eZ;simp only [List.headD_cons,List.drop_succ_cons,List.drop_zero,IH,I9,Ht,Ip,IJ,List.flatten_nil,Iv];exact ((ly A).append_right _).append_left _
theorem Aw (h:aP q M [A,B,C] S=true):aS (dq M A B C).flatten=aS (eZ M [A,B,C]).flatten :=
 o9 (iJ h) ((gG M A B C).trans (parts_flat M A B C).symm)
theorem DN (B:List af):(aW B).length=BU B:=by
 unfold aW BU;rw [List.length_flatMap]
theorem rx (h:Gm B):∀e ∈ aW B,FP e:=by
 unfold aW;intro e b;obtain ⟨p,hp,b⟩:=IR.1 b;exact h p hp e b
theorem vg (M:List ac) (A B C:List af):(M++(aW A++(aW B++aW C))).length≤M.length+(Fv [A,B,C]+[A,B,C].length):=by
 simp only [GO,DN,Fv,IH,I9,List.sum_cons,List.sum_nil];omega
theorem zl (hM:∀e ∈ M,FP e) (hV:∀Z ∈ [A,B,C],Gm Z):∀e ∈ M++(aW A++(aW B++aW C)),FP e:=by
 intro e b;rcases GX.1 b with h | h
 · exact hM e h
 rcases GX.1 h with h | h
 · exact rx (hV A (by simp)) e h
 rcases GX.1 h with h | h
 · exact rx (hV B (by simp)) e h
 · exact rx (hV C (by simp)) e h
theorem dX (h:aP q M V S=true):∃A B C,V=[A,B,C]:=by
 have:=(aL h).2.2.2.2.2.1;match V,this with
 | [A,B,C],_=>exact ⟨A,B,C,rfl⟩
theorem xw:(jP q M V S).length≤M.length+(Fv V+V.length):=by
 unfold jP;by_cases h:aP q M V S=true
 · rw [if_pos h];obtain ⟨A,B,C,rfl⟩:=dX h;rw [(bu _).2.length_eq,(parts_flat M A B C).length_eq];exact vg M A B C
 · rw [if_neg h];simp
theorem xX (w:World) (g o:Nat) (u:Value):dw g (g+1) w (w.setCell ⟨g,o,none⟩ u):=⟨rfl,rfl,rfl,by simp [World.setCell],fun q _ hq=>Below.heap_setCell _ _ _ _ (fun e=>by have b:q=g:=e;omega)⟩
structure pD (w:World) (am:Option Addr) (nm cm:Nat) (a0:Option Addr) (n0 c0:Nat) (a1:Option Addr) (n1 c1:Nat) (a2:Option Addr) (n2 c2:Nat) (ak:Option Addr) (nk ck:Nat) (M:List ac) (A B C:List af) (S:List Int):Prop where
 mem:ah w am nm cm M
 r0:aw 0 w a0 n0 c0 A
 r1:aw 0 w a1 n1 c1 B
 r2:aw 0 w a2 n2 c2 C
 sn:bJ 0 w ak nk ck S
theorem pD.keep {a0 a1 a2:Option Addr} {d c0 b c1 n2 c2:Nat} (h:pD w am nm cm a0 d c0 a1 b c1 a2 n2 c2 ak nk ck M A B C S) (hb:Bl w w'):pD w' am nm cm a0 d c0 a1 b c1 a2 n2 c2 ak nk ck M A B C S:=⟨h.mem.keep hb,h.r0.keep hb,h.r1.keep hb,h.r2.keep hb,h.sn.keep hb⟩
def FS (w:World) (e:Ending) (w':World):Prop :=
 ∃q2 am2 nm2 cm2 a02 n02 c02 a12 n12 c12 a22 n22 c22 ak2 nk2 ck2,e=.returned (.tuple #[.agg #[iT q2,.slice am2 nm2 cm2,.slice a02 n02 c02,.slice a12 n12 c12,.slice a22 n22 c22,.slice ak2 nk2 ck2],.bool false])∧Bl w w'
theorem fq.lowO (h:fq lo hi w b1 nm b2 nv b3 ns M V S gs bs es) (hl:lo'≤lo):fq lo' hi w b1 nm b2 nv b3 ns M V S gs bs es:=by
 obtain ⟨xs,h1,h2⟩:=h.levs.row;exact ⟨h.mem.mono hl,⟨h.levs.len,⟨xs,jb h1 hl,h2⟩,h.levs.levs,⟨GU hl h.levs.bot.1,h.levs.bot.2⟩,h.levs.up,h.levs.top⟩,⟨h.sn.1,jb h.sn.2 hl⟩,h.ahead⟩
theorem fq.highO (h:fq lo hi w b1 nm b2 nv b3 ns M V S gs bs es) (hl:hi≤hi'):fq lo hi' w b1 nm b2 nv b3 ns M V S gs bs es :=
 ⟨h.mem,⟨h.levs.len,h.levs.row,h.levs.levs,h.levs.bot,h.levs.up,GU h.levs.top hl⟩,h.sn,h.ahead⟩
theorem mg {X:Nat} (h:fq lo hi w b1 nm b2 nv b3 ns M V S gs bs es) (b:X<lo) (hl:lo'≤lo) (hh:hi≤hi') (u0 u1 u2 u3:Value):fq lo' hi' ((((w.setCell ⟨X,0,none⟩ u0).setCell ⟨X,1,none⟩ u1).setCell ⟨X,2,none⟩ u2).setCell ⟨X,3,none⟩ u3) b1 nm b2 nv b3 ns M V S gs bs es :=
 ((h.keepO ((((xX _ _ _ _).trans (xX _ _ _ _)).trans (xX _ _ _ _)).trans (xX _ _ _ _)) b).lowO hl).highO hh
theorem aZ.share {x:Int} {H:Option Addr} {D:Nat} (f:aZ lo w am nm cm H nv D ak nk ck M V S) (t:aP x M V S=true):∃b d A B C a0 g c0 a1 r c1 a2 n2 o,H=some ⟨b,d,none⟩∧nv=3∧V=[A,B,C]∧pD w am nm cm a0 g c0 a1 r c1 a2 n2 o ak nk ck M A B C S∧(∀w',Bl w w'→Calls Tryz.prog 86 #[.agg #[iT x,.slice am nm cm,sO b d 3 D,.slice ak nk ck]] w' fun e F=>e=.returned (.tuple #[.agg #[iT x,.slice am nm cm,.slice a0 g c0,.slice a1 r c1,.slice a2 n2 o,.slice ak nk ck],.bool true])∧Bl w' F):=by
 obtain ⟨A,B,C,E⟩:=dX t;subst E;have y:nv=3:=f.levels.length.symm;subst y;obtain ⟨b,d,rfl,I⟩:=f.levels.form (by omega);obtain ⟨O,a0,g,c0,hA,l0,m⟩:=f.levels.level (Below.refl _ w) 0 (by omega);obtain ⟨N,a1,r,c1,hB,l1,u⟩:=f.levels.level (Below.refl _ w) 1 (by omega);obtain ⟨J,a2,n2,o,hC,l2,s⟩:=f.levels.level (Below.refl _ w) 2 (by omega);simp only [IF,Ig,Ix] at hA hB hC;subst hA hB hC;rw [Ik] at l0;refine ⟨b,d,A,B,C,a0,g,c0,a1,r,c1,a2,n2,o,rfl,rfl,rfl,⟨f.mem.1,m.mono (GQ _),u.mono (GQ _),s.mono (GQ _),f.snaps.lower (GQ _)⟩,fun w' k=>?_⟩;have:=jh lo x am ak nm cm b d D nk ck M A B C S a0 a1 a2 g c0 r c1 n2 o w' (f.mem.1.keep k) (f.snaps.keep k) (m.keep k) (u.keep k) (s.keep k) (cell_later k l0) (cell_later k l1) (cell_later k l2);rw [t] at this;exact this
structure xC (M:List ac) (A B C:List af) (S:List Int):Prop where
 bm:M.length≤1048576
 bk:S.length≤1048576
 em:e9 M
 b0:lg A
 b1:lg B
 b2:lg C
 e0:iR A
 e1:iR B
 e2:iR C
theorem xr (q:Int) (am ak:Option Addr) (nm cm nk ck:Nat) (a0 a1 a2:Option Addr) (d c0 b c1 n2 c2:Nat) (M:List ac) (A B C:List af) (S:List Int) (w:World) (h:pD w am nm cm a0 d c0 a1 b c1 a2 n2 c2 ak nk ck M A B C S) (ho:xC M A B C S) :
 Calls Tryz.prog 92 #[.agg #[iT q,.slice am nm cm,.slice a0 d c0,.slice a1 b c1,.slice a2 n2 c2,.slice ak nk ck]] w (Gk q nm nk M [A,B,C] S w) :=
 D9 0 q am ak nm cm nk ck a0 a1 a2 d c0 b c1 n2 c2 M A B C S w h.mem h.sn h.r0 h.r1 h.r2 (by have:=h.mem.length;have:=ho.bm;omega) (by have:=h.sn.length;have:=ho.bk;omega) ho.em ho.b0 ho.b1 ho.b2 ho.e0 ho.e1 ho.e2
def Gh (q2:Int) (M2:List ac) (A2 B2 C2:List af) (S2:List Int) (w:World) (e:Ending) (w':World):Prop :=
 ∃am2 nm2 cm2 a02 n02 c02 a12 n12 c12 a22 n22 c22 ak2 nk2 ck2,e=.returned (.tuple #[.agg #[iT q2,.slice am2 nm2 cm2,.slice a02 n02 c02,.slice a12 n12 c12,.slice a22 n22 c22,.slice ak2 nk2 ck2],.bool true])∧pD w' am2 nm2 cm2 a02 n02 c02 a12 n12 c12 a22 n22 c22 ak2 nk2 ck2 M2 A2 B2 C2 S2∧Bl w w'
def Ab (w:World) (e:Ending) (w':World):Prop:=e=.returned (.tuple #[.agg #[iT 0,nZ,nZ,nZ],.bool false])∧Bl w w'
theorem A8 {e:Ending} (h:Ab w e w'):pF 0 [] [] [] false w e w':=⟨none,0,none,0,none,0,fun _=>0,fun _=>0,fun _ _=>0,h.1,.inr ⟨rfl,rfl,rfl,rfl,rfl,rfl,rfl,rfl,rfl⟩,h.2⟩
theorem Bw {e:Ending} (h:Ab w e w'):Em 0 [] [] [] false w e w':=⟨none,0,0,none,0,0,none,0,0,h.1,mh 0 w',h.2⟩
theorem B9 (lo:Nat) (s:Int) (fv:Value) (am t ak:Option Addr) (nm cm nv r nk ck:Nat) (M:List ac) (V:List (List af)) (S:List Int) (w:World) (f:aZ lo w am nm cm t nv r ak nk ck M V S) (y:aP s M V S=false) :
 Calls Tryz.prog 61 #[.agg #[iT s,.slice am nm cm,.slice t nv r,.slice ak nk ck],fv] w (Ab w):=by
 have u:Eq (V.length=nv):=f.levels.length;have CS:Eq (∀w',Bl w w'→Calls Tryz.prog 86 #[.agg #[iT s,.slice am nm cm,.slice t nv r,.slice ak nk ck]] w' fun e m=>(∃(J:Int) (m' x0 x1 Z Y:Value),e=.returned (.tuple #[.agg #[iT J,m',x0,x1,Z,Y],.bool false])∧(∃a n c,m'=.slice a n c)∧(∃a n c,x0=.slice a n c)∧(∃a n c,x1=.slice a n c)∧(∃a n c,Z=.slice a n c)∧(∃a n c,Y=.slice a n c))∧Bl w' m):=fun w' k=>by
  by_cases hn:nv=3
  · subst hn;obtain ⟨A,B,C,H⟩:∃A B C,V=[A,B,C]:=by
     have:=u.o;match V,this with
     | [A,B,C],_=>exact ⟨A,B,C,rfl⟩
    subst H;obtain ⟨b,O,rfl,ab⟩:=f.levels.form (by omega);obtain ⟨A',a0,n0,c0,hA,l0,N⟩:=f.levels.level (Below.refl _ w) 0 (by omega);obtain ⟨B',a1,n1,c1,hB,l1,R⟩:=f.levels.level (Below.refl _ w) 1 (by omega);obtain ⟨C',a2,n2,c2,hC,l2,Q⟩:=f.levels.level (Below.refl _ w) 2 (by omega);simp only [IF,Ig,Ix] at hA hB hC;subst hA hB hC;rw [Ik] at l0;have:=jh lo s am ak nm cm b O r nk ck M A B C S a0 a1 a2 n0 c0 n1 c1 n2 c2 w' (f.mem.1.keep k) (f.snaps.keep k) (N.keep k) (R.keep k) (Q.keep k) (cell_later k l0) (cell_later k l1) (cell_later k l2);rw [y] at this;refine this.mono ?_;rintro e m ⟨rfl,hb⟩;exact ⟨⟨_,_,_,_,_,_,rfl,⟨_,_,_,rfl⟩,⟨_,_,_,rfl⟩,⟨_,_,_,rfl⟩,⟨_,_,_,rfl⟩,⟨_,_,_,rfl⟩⟩,hb⟩
  · refine (kM s am t ak nm cm nv r nk ck w' hn).mono ?_;rintro e m ⟨rfl,hb⟩;exact ⟨⟨_,_,_,_,_,_,rfl,⟨_,_,_,rfl⟩,⟨_,_,_,rfl⟩,⟨_,_,_,rfl⟩,⟨_,_,_,rfl⟩,⟨_,_,_,rfl⟩⟩,hb⟩
 obtain ⟨X,D⟩:=aG w.heap.size;obtain ⟨W,F⟩:=aG ((w.alloc (.cells #[iT s,.slice am nm cm,.slice t nv r,.slice ak nk ck] 31)).alloc (.cells #[iT 0,nZ,nZ,nZ] 31));have T:Bl w W:=by rw [F];exact bZ.alloc (by simp) _
 have U:ay W (X+1) (iT 0) nZ nZ nZ:=by
  have:=ay.new (w.alloc (.cells #[iT s,.slice am nm cm,.slice t nv r,.slice ak nk ck] 31)) 31 (iT 0) nZ nZ nZ;rw [GY] at this;rw [F,D];exact this
 have HX:Eq (X=w.heap.size):=D;have E:Eq (Bl w W):=T;clear f T y u;go_enter Tryz.func61,Tryz.ntmps61
 go_wp2_with fail
 rw [← D,← F];clear D F;refine (CS.o _ E.o).mono ?_;rintro e w1 ⟨⟨J,_,_,_,_,_,rfl,⟨m1,m2,m3,rfl⟩,⟨y1,y2,y3,rfl⟩,⟨z1,z2,z3,rfl⟩,⟨u1,u2,u3,rfl⟩,⟨v1,v2,v3,rfl⟩⟩,d⟩;obtain ⟨w2,g⟩:=aG (w1.alloc (.cells #[iT J,.slice m1 m2 m3,.slice y1 y2 y3,.slice z1 z2 z3,.slice u1 u2 u3,.slice v1 v2 v3] 82));have I:Bl w1 w2:=by rw [g];exact bZ
 have K1:Eq (Bl w w2):=(E.o.trans (d.mono E.o.size)).trans (I.mono (GU E.o.size d.size));have x:=(U.keep d).keep I;have r0:=x.all;clear d U I;go_upto_region 2 with fail
 rw [← g];clear g;go_wp2;refine bodyPost_ret (v:=.tuple #[.agg #[iT 0,nZ,nZ,nZ],.bool false]) ?_ rfl ⟨rfl,?_⟩
 · have e:=(((x.set0 (iT 0)).set1 nZ).set2 nZ).set3 nZ;simp [results,Tryz.results61,go_sem,e.all]
 · have hx:w.heap.size≤X+1:=by have:=HX.o;omega
   exact jY K1.o hx _ _ _ _
theorem EZ:∀c:List ac,c≠[]→nW false c≠[]
 | [],h=>absurd rfl h
 | e :: R,_=>by
  rw [wU (e:=e) false rfl]
  unfold eE
  split
  · simp
  · simp
theorem Bg (b:List (List ac)):(b.foldr (Sq.stepD nW) (false,[])).1=false:=by
 induction b with
 | nil=>rfl
 | cons c b d =>
  rw [List.foldr_cons];show (if _ then _ else false)=false
  split
  · exact d
  · rfl
theorem AO {G:List ac} (hG:G≠[]):fc S false G≠[]:=by
 unfold fc Sq.leftD;cases hp:Sq.parts (im S) G with
 | nil =>
  have h:=Sq.parts_flat (im S) G;rw [hp] at h;exact absurd h.symm hG
 | cons c b =>
  have hc:=lC (im S) G c (by rw [hp];simp);rw [List.foldr_cons];show nW _ c++_≠[]
  rw [Bg b];intro h;exact EZ c hc (List.append_eq_nil_iff.1 h).1
theorem vp (hr:aI M=true) (hM:M≠[]) (S:List Int):bT M S false≠[]:=by
 unfold bT;rw [if_pos hr];cases hp:Sq.parts fA M with
 | nil =>
  have h:=Sq.parts_flat fA M;rw [hp] at h;exact absurd h.symm hM
 | cons G b =>
  have hG:=lC fA M G (by rw [hp];simp);rw [I7];intro h;exact AO hG (List.append_eq_nil_iff.1 h).1
theorem xR (h:aI L=true):aS L=L:=by
 have hb:=bu L;exact (iK (fW h) hb.1 hb.2.symm).symm
def ee (p:Nat→Prop) (w:World) (xs:List Value) (B:List af):Prop :=
 xs.length=B.length*2∧∀i (r:af),B[i]?=some r→(Lit.int .i64 r.2).wf=true∧∃s n c,xs[i*2]?=some (.slice s n c)∧xs[i*2+1]?=some (iT r.2)∧ah w s n c r.1∧∀x,s=some x→0<n→p x.block
theorem ee.den {p:Nat→Prop} (h:ee p w xs B):mI w xs B :=
 ⟨h.1,fun i r hr=>by obtain ⟨h1,s,n,c,h2,h3,h4,_⟩:=h.2 i r hr;exact ⟨h1,s,n,c,h2,h3,h4,fun x e _=>GQ _⟩⟩
theorem mI.denP (h:mI w xs B):ee (·<w.heap.size) w xs B :=
 ⟨h.1,fun i r hr=>by obtain ⟨h1,s,n,c,h2,h3,h4⟩:=h.2 i r hr;exact ⟨h1,s,n,c,h2,h3,h4.1,fun x e hp=>(h4.1.lies x e hp).1⟩⟩
theorem ee.imp {p d:Nat→Prop} (h:ee p w xs B) (hp:∀b,p b→d b):ee d w xs B :=
 ⟨h.1,fun i r hr=>by obtain ⟨h1,s,n,c,h2,h3,h4,h5⟩:=h.2 i r hr;exact ⟨h1,s,n,c,h2,h3,h4,fun x e hn=>hp _ (h5 x e hn)⟩⟩
theorem ee.same {p:Nat→Prop} (h:ee p w xs B) (hs:w.heap.size≤w'.heap.size) (hb:∀b,p b→b<w.heap.size→w'.heap[b]?=w.heap[b]?):ee p w' xs B :=
 ⟨h.1,fun i r hr=>by
  obtain ⟨h1,s,n,c,h2,h3,h4,h5⟩:=h.2 i r hr
  exact ⟨h1,s,n,c,h2,h3,h4.moved hs (fun x e hn o=>Hz (hb _ (h5 x e hn) (h4.lies x e hn).1)),h5⟩⟩
theorem ee.keepO (h:ee (fun b=>b<lo∨hi≤b) w xs B) (k:dw lo hi w w'):ee (fun b=>b<lo∨hi≤b) w' xs B:=h.same k.size (fun b hp hl=>k.block b hl hp)
theorem ee.below {p:Nat→Prop} (h:ee p w xs B) (k:Bl w w'):ee p w' xs B:=h.same k.size (fun b _ hl=>k.block b hl)
theorem ee.low (h:ee (·<w.heap.size) w xs B) (k:Bl w w'):ee (·<w.heap.size) w' xs B:=h.same k.size (fun b hp _=>k.block b hp)
theorem ee.app {p:Nat→Prop} {b:List Value} (h:ee p w xs A) (k:ee p w b B):ee p w (xs++b) (A++B):=by
 have hl:=h.1;have kl:=k.1;refine ⟨by rw [GO,GO,hl,kl];omega,fun i r hr=>?_⟩;by_cases hi:i<A.length
 · rw [GW hi] at hr;rw [GW (by omega),GW (by omega)];exact h.2 i r hr
 · rw [GR (by omega)] at hr;rw [GR (by omega),GR (by omega),show i*2 - xs.length=(i - A.length)*2 by omega,show i*2+1 - xs.length=(i - A.length)*2+1 by omega];exact k.2 _ r hr
def mz (M:List ac) (S:List Int):af:=(bT M S false,((dL (bT M S false):Nat):Int))
def Ey (q:Int) (i:Nat) (e:ac):ac:=(e.1,q+1+i,e.2.2)
def dh (q:Int) (K:List ac):List ac:=K.mapIdx (Ey q)
theorem qg {e:ac} (h:K[i]?=some e):dh q (K.take (i+1))=dh q (K.take i)++[Ey q i e]:=by
 have hi:=(F'.1 h).1;unfold dh;rw [Hc,h];simp only [Option.toList_some];rw [List.mapIdx_concat,GS,Nat.min_eq_left (by omega)]
theorem fk (q:Int) (K:List ac):(dh q K).length=K.length:=by simp [dh]
def lV (q:Int) (K:List ac) (i:Nat):Bool:=match K[i]? with
 | none=>true
 | some e=>decide (e.2.1=0) && dM e.1 (q+1+i) e.2.2.1 e.2.2.2.1 e.2.2.2.2
def dx (q:Int) (K:List ac):Bool:=(List.range K.length).all (lV q K)
theorem s5 (hl:K.length=n) (h:∀j,j<n→lV q K j=true):dx q K=true:=by
 unfold dx;rw [Hf];intro j b;exact h j (by rw [← hl];exact Ia.1 b)
theorem mN (hi:i<K.length) (h:lV q K i=false):dx q K=false:=by
 unfold dx;rw [List.all_eq_false];exact ⟨i,Ia.2 hi,by rw [h];simp⟩
theorem Cj {e:ac} (h:K[i]?=some e) (h0:¬e.2.1=0):lV q K i=false:=by
 unfold lV;rw [h];simp [h0]
theorem Ff {e:ac} (h:K[i]?=some e) (h0:e.2.1=0):lV q K i=dM e.1 (q+1+i) e.2.2.1 e.2.2.2.1 e.2.2.2.2:=by
 unfold lV;rw [h];simp [h0]
theorem s6 (h:dx q K=true) {i:Nat} {e:ac} (b:(dh q K)[i]?=some e):dM e.1 e.2.1 e.2.2.1 e.2.2.2.1 e.2.2.2.2=true:=by
 have hi:=(F'.1 b).1;rw [fk] at hi;unfold dx at h;rw [Hf] at h;have h1:=h i (Ia.2 hi);have hk:=j' hi;unfold lV at h1;rw [hk] at h1;simp only [G2] at h1;unfold dh at b;rw [List.getElem?_mapIdx,hk] at b;simp only [Option.map_some,Ix] at b;subst b;exact h1.2
def bX (q:Int) (M K:List ac):Bool:=decide (1≤K.length) && (decide (K.length≤12) && (decide (M.length+K.length≤60) && dx q K))
theorem Da (h:w.ownsRow base 50 5 v n (aF L)) (hl:L.length=n) (hw:∀l ∈ L,d9 l):∃a c,v=.slice a n c∧cE w base a n c L:=by
 rcases h.2 with ⟨hv,h0⟩ | ⟨g,b,d,hv,_⟩
 · subst hv h0;obtain rfl:=Hy.1 hl;exact ⟨none,0,rfl,cE.none _ _⟩
 · subst hv;exact ⟨_,b,rfl,cE.some ⟨h,hl,hw⟩⟩
theorem l9 (w:World) (s:ByteArray) (Q d:Int) (t:ByteArray) (m:Int):∀j u,[Value.string s,iT Q,iT d,.string t,iT m][j]?=some u→(w.alloc (.cells #[.string s,iT Q,iT d,.string t,iT m] 50)).cell? ((⟨w.heap.size,0,none⟩:Addr).add j)=some u:=by
 intro j u b;rw [G6];match j,b with
 | 0,b=>simp at b;subst b;simp
 | 1,b=>simp at b;subst b;simp
 | 2,b=>simp at b;subst b;simp
 | 3,b=>simp at b;subst b;simp
 | 4,b=>simp at b;subst b;simp
theorem bD {w w':World} {base e size n:Nat} {v:Value} {xs:List Value} (h:w.ownsRow base e size v n xs) (hb:Bl w w'):w'.ownsRow base e size v n xs:=h.kept (row:=none) ⟨hb.os,hb.tape,hb.output,hb.size,fun k hk _=>hb.block k hk⟩ (by
 cases v.ownBlock with
 | none=>exact .inl rfl
 | some x=>exact .inr (by simp))
def ld (q:Int) (K:List ac) (n:Nat) (w:World) (e:Ending) (w':World):Prop:=∃v ok,e=.returned (.tuple #[v,.bool ok])∧(dx q K=true→(∃g c',v=sL g n c'∧ag w' w.heap.size g n c' (dh q K))∧ok=(decide (1≤n) && decide (n≤12)))∧(dx q K=false→ok=false∧∃a m c' L,v=.slice a m c'∧ah w' a m c' L)∧Bl w w'
def mG (q:Int) (K:List ac) (n:Nat) (w:World) (e:Ending) (w':World):Prop:=∃v ok,e=.returned (.tuple #[v,.bool ok])∧(dx q K=true→(∃a c',v=.slice a n c'∧cE w' w.heap.size a n c' (dh q K))∧ok=decide (0<n))∧(dx q K=false→ok=false∧v=nZ)∧Bl w w'
theorem wR (p:Nat→Prop) (w:World):ee p w [] []:=⟨rfl,fun i r h=>by simp at h⟩
theorem nK {s:Option Addr} {c:Nat} {m:Int} (hm:(Lit.int .i64 m).wf=true) (h:ah w s n c L):ee (·<w.heap.size) w [.slice s n c,iT m] [(L,m)]:=by
 refine ⟨rfl,fun i r hr=>?_⟩;match i,hr with
 | 0,hr=>cases hr;exact ⟨hm,s,n,c,rfl,rfl,h,fun x e hp=>(h.lies x e hp).1⟩
def sW (w:World) (vs:List Value) (P:List (List ac)):Prop:=vs.length=P.length∧∀(j:Nat) (L:List ac),P[j]?=some L→∃(s:Option Addr) (m d:Nat),vs[j]?=some (Value.slice s m d)∧ah w s m d L
theorem DX (w:World):sW w [] []:=⟨rfl,fun j L h=>by simp at h⟩
theorem sW.keep (h:sW w vs P) (hb:Bl w w'):sW w' vs P:=⟨h.1,fun j L b=>by
 obtain ⟨s,m,d,h1,h2⟩:=h.2 j L b
 exact ⟨s,m,d,h1,h2.keep hb⟩⟩
theorem sW.snoc (h:sW w vs P) {s:Option Addr} {m d:Nat} {L:List ac} (hE:ah w s m d L):sW w (vs++[.slice s m d]) (P++[L]):=by
 have hl:=h.1;refine ⟨by simp [hl],fun j X b=>?_⟩;by_cases f:j<P.length
 · rw [GW f] at b;obtain ⟨g,r,o,h1,h2⟩:=h.2 j X b;exact ⟨g,r,o,by rw [GW (by omega)];exact h1,h2⟩
 · rw [GR (by omega)] at b;have e:j - P.length=0:=by
    have:=(F'.1 b).1;simp at this;omega
   rw [e] at b;cases b;exact ⟨s,m,d,by rw [GR (by omega),show j - vs.length=0 by omega];rfl,hE⟩
def ss (n:Nat) (B:List af) (w:World) (e:Ending) (w':World):Prop:=∃v vs,e=.returned v∧w'.ownsRow w.heap.size 28 1 v n vs∧sW w vs (bG B)∧Bl w w'
theorem vV (h:w.ownsRow base 28 1 v n vs) (d:sW w vs P):∃a c,v=.slice a n c∧cZ w a n c P:=by
 have hn:P.length=n:=by have h1:=h.1;have h2:=d.1;omega
 rcases h.2 with ⟨hv,h0⟩ | ⟨g,f,o,hv,_⟩
 · subst hv h0;exact ⟨none,0,rfl,hn,GL _,GQ _,fun _=>rfl,(fun x e=>by cases e),fun x e=>by cases e⟩
 · subst hv;have b:=cC h;refine ⟨_,f,rfl,hn,b.1,b.2,(fun e=>by cases e),(fun x e _=>by cases e;exact ⟨(h.lt g rfl).2,rfl⟩),fun x e i hi=>?_⟩;cases e;obtain ⟨s,m,r,h1,h2⟩:=d.2 i _ (j' hi);have hc:=h.cells (g:=g) rfl i _ h1;rw [G6] at hc;exact ⟨s,m,r,hc,h2⟩
theorem qp (a:Option Addr) (n c:Nat) (B:List af) (low f:ByteArray) (w:World) (h:aw 0 w a n c B) (a7:∀r ∈ B,1≤r.1.length) (hn:n≤1000) :
 Calls Tryz.prog 177 #[.slice a n c,.string low,.string f] w fun e w'=>∃g1 y c1 g2 n2 H,e=.returned (.tuple #[sL g1 y c1,sL g2 n2 H])∧aw 0 w' (pT g1) y c1 (B.filter (eG low f))∧aw 0 w' (pT g2) n2 H (B.filter (fun r=>!eG low f r))∧Bl w w':=by
 have HB:=az h;have HL:Eq (B.length=n):=h.length;have aE:=az a7;obtain ⟨i0,hi,aj,an,ab⟩:=info_parts Tryz.infoRun;clear h a7;obtain ⟨p,hp⟩:=aG (eG low f);obtain ⟨q,hq⟩:∃q:af→Bool,q=fun r=>!eG low f r:=⟨_,rfl⟩
 have J:Eq (∀r,p r=eG low f r∧q r=!p r):=fun r=>by rw [hp,hq];exact ⟨rfl,rfl⟩
 rw [← hq,← hp];clear hp hq;have R1:Eq ((w.alloc (.cells #[] 63)).ownsRow w.heap.size 63 2 (sL (w.heap.size) 0 0) 0 []):=by
  have:=Hi (base:=w.heap.size) (e:=63) (size:=2) w #[] 0 (GL _) (by simp) (by simp);show World.ownsRow _ _ _ _ _ _ _
  simpa using this
 have K1:Eq (Bl w (w.alloc (.cells #[] 63))):=bZ;have R2:Eq (((w.alloc (.cells #[] 63)).alloc (.cells #[] 63)).ownsRow w.heap.size 63 2 (sL (w.heap.size+1) 0 0) 0 []):=by
  have:=Hi (base:=w.heap.size) (e:=63) (size:=2) (w.alloc (.cells #[] 63)) #[] 0 (by simp) (by simp) (by simp);show World.ownsRow _ _ _ _ _ _ _
  rw [GY] at this;simpa using this
 have K2:Eq (Below (w.alloc (.cells #[] 63)).heap.size (w.alloc (.cells #[] 63)) ((w.alloc (.cells #[] 63)).alloc (.cells #[] 63))):=bZ;go_enter Tryz.func177,Tryz.ntmps177
 go_wp2;go_loopw [8,9,10] (fun v1 v2 iv wr=>∃(i g1 y c1 g2 n2 H:Nat) (xs U:List Value),i≤n∧iv=iT i∧v1=sL g1 y c1∧v2=sL g2 n2 H∧g1≠g2∧y+n2≤i∧wr.ownsRow w.heap.size 63 2 (sL g1 y c1) y xs∧wr.ownsRow w.heap.size 63 2 (sL g2 n2 H) n2 U∧ee (·<w.heap.size) w xs ((B.take i).filter p)∧ee (·<w.heap.size) w U ((B.take i).filter q)∧Bl w wr) (fun _ _ iv _=>n - (intOf iv).toNat)
 case atStart =>
  refine ⟨0,w.heap.size,0,0,w.heap.size+1,0,0,[],[],GQ _,rfl,rfl,by first | rfl | simp,by omega,GL _,b9 R1.o K2.o,R2.o,wR _ _,wR _ _,K1.o.trans (K2.o.mono K1.o.size)⟩
 case round =>
  clear R1 R2 K1 K2;obtain ⟨i,g1,y,c1,g2,n2,H,xs,U,b6,rfl,rfl,rfl,ah,aK,ae,a8,ac,a4,hb⟩:=hrel;have a0:Eq (wr.ownsRow w.heap.size 63 2 (sL g1 y c1) y xs):=ae;have Y:Eq (wr.ownsRow w.heap.size 63 2 (sL g2 n2 H) n2 U):=a8;have a1:Eq (ee (·<w.heap.size) w xs ((B.take i).filter p)):=ac;have W:Eq (ee (·<w.heap.size) w U ((B.take i).filter q)):=a4;have HK:Eq (Bl w wr):=hb;have F:Eq (g1≠g2):=ah;have I:Eq (y+n2≤i):=aK;clear ae a8 ac a4;by_cases aH:i<n
  · have ap:(i:Int)<(n:Int):=by omega
    obtain ⟨b,ao,rfl,aD⟩:=HB.o.form (by omega);obtain ⟨L,m,s,len,g,hg,aa,c0,O,hE⟩:=HB.o.run (Below.refl _ w) i aH;have HG:Eq (B[i]?=some (L,m)):=hg;have ar:Eq (ee (·<w.heap.size) w [.slice s len g,iT m] [(L,m)]):=nK aa hE.1;have ag:1≤len:=by have h1:=aE.o _ (GP hg);have h2:=hE.1.length;simp only at h1;omega
    obtain ⟨T,hT⟩:=aG (eG low f (L,m));have HT:Eq (T=eG low f (L,m)):=hT;have CM:Eq (Calls Tryz.prog 222 #[.agg #[.slice s len g,iT m],.string low,.string f] wr fun e w'=>e=.returned (.bool T)∧Bl wr w'):=by rw [hT];exact Cp m s len g L low f wr (hE.1.keep hb) ag
    have C0:Eq (w.cell? ⟨b,ao+i*2,none⟩=some (.slice s len g)∧w.cell? ⟨b,ao+i*2+1,none⟩=some (iT m)):=⟨c0,O⟩;have c0:=cell_later hb c0;have O:=cell_later hb O;have zb:b<wr.heap.size:=E' aD hb.size;clear hg aa hE hb hT ag;go_wp2_with fail
    refine CM.o.mono ?_;rintro e N ⟨rfl,E⟩;have K1:Eq (Bl w N):=HK.o.trans (E.mono HK.o.size);have S1:Eq (N.ownsRow w.heap.size 63 2 (sL g1 y c1) y xs):=b9 a0.o E;have S2:Eq (N.ownsRow w.heap.size 63 2 (sL g2 n2 H) n2 U):=b9 Y.o E;have c0:=cell_later E c0;have O:=cell_later E O;have zb:=E' zb E.size;have a9:=bW N (.slice s len g) (iT m) 63;have al:=az a9;have ka:Bl N (N.alloc (.cells #[.slice s len g,iT m] 63)):=bZ;have A1:Eq ((N.alloc (.cells #[.slice s len g,iT m] 63)).ownsRow w.heap.size 63 2 (sL g1 y c1) y xs):=b9 S1.o ka;have A2:Eq ((N.alloc (.cells #[.slice s len g,iT m] 63)).ownsRow w.heap.size 63 2 (sL g2 n2 H) n2 U):=b9 S2.o ka;have KA:Eq (Bl w (N.alloc (.cells #[.slice s len g,iT m] 63))):=K1.o.trans (ka.mono K1.o.size);clear E a9 ka a0 Y S1 S2 CM;cases T with
    | true =>
     go_wp2_with (at_builtin;refine wpList_append_own_at _ rfl _ _ 61 rfl w.heap.size 63 i0 _ 2 32 Tryz.underlying61 hi aj an ab rfl (by decide) _ _ _ rfl A1.o ⟨N.heap.size,0,none⟩ 1 1 [.slice s len g,iT m] rfl rfl al.o (by intro u hu;simp at hu;rcases hu with rfl | rfl <;> rfl) (by have:=I.o;unfold maxLen;omega) (by have:=I.o;omega) KA.o.size ?_;intro v3 w3 x d t D;obtain ⟨R,c3,rfl⟩:=aO x t)
     have X:R≠g2:=by
      have h1:=(A2.o.lt g2 rfl).2;have h2:=F.o;rcases D with h | h
      · have h3:R=g1:=GN (show some R=some g1 from h);omega
      · have h3:=GN (show some R=some _ from h);omega
     have Z:Eq (w3.ownsRow w.heap.size 63 2 (sL g2 n2 H) n2 U):=A2.o.kept d (.inr (fun e=>by have h1:g2=g1:=GN (show some g2=some g1 from e);have:=F.o;omega));have KB:Eq (Bl w w3):=KA.o.grown d KA.o.size (fun k e=>(A1.o.lt k e).1);clear D d t;go_roundw
     case rel =>
      refine ⟨i+1,R,y+1,c3,g2,n2,H,xs++[.slice s len g,iT m],U,by omega,by go_num,rfl,rfl,X,by have:=I.o;omega,x,Z.o,(by rw [iP HG.o,(J.o _).1,← HT.o];exact a1.o.app ar.o),(by rw [iP HG.o,(J.o _).2,(J.o _).1,← HT.o];simpa using W.o),KB.o⟩
     case measure=>simp [intOf];omega
    | false =>
     go_wp2_with (at_builtin;refine wpList_append_own_at _ rfl _ _ 61 rfl w.heap.size 63 i0 _ 2 32 Tryz.underlying61 hi aj an ab rfl (by decide) _ _ _ rfl A2.o ⟨N.heap.size,0,none⟩ 1 1 [.slice s len g,iT m] rfl rfl al.o (by intro u hu;simp at hu;rcases hu with rfl | rfl <;> rfl) (by have:=I.o;unfold maxLen;omega) (by have:=I.o;omega) KA.o.size ?_;intro v3 w3 x d t D;obtain ⟨R,c3,rfl⟩:=aO x t)
     have X:R≠g1:=by
      have h1:=(A1.o.lt g1 rfl).2;have h2:=F.o;rcases D with h | h
      · have h3:R=g2:=GN (show some R=some g2 from h);omega
      · have h3:=GN (show some R=some _ from h);omega
     have Z:Eq (w3.ownsRow w.heap.size 63 2 (sL g1 y c1) y xs):=A1.o.kept d (.inr (fun e=>by have h1:g1=g2:=GN (show some g1=some g2 from e);have:=F.o;omega));have KB:Eq (Bl w w3):=KA.o.grown d KA.o.size (fun k e=>(A2.o.lt k e).1);clear D d t;go_roundw
     case rel =>
      refine ⟨i+1,g1,y,c1,R,n2+1,c3,xs,U++[.slice s len g,iT m],by omega,by go_num,rfl,rfl,fun e=>X e.symm,by have:=I.o;omega,Z.o,x,(by rw [iP HG.o,(J.o _).1,← HT.o];simpa using a1.o),(by rw [iP HG.o,(J.o _).2,(J.o _).1,← HT.o];exact W.o.app ar.o),KB.o⟩
     case measure=>simp [intOf];omega
  · have ap:¬(i:Int)<(n:Int):=by omega
    have Q:B.take i=B:=GV (by rw [HL.o];omega);have D1:=a1.o.low HK.o;have D2:=W.o.low HK.o;rw [Q] at D1 D2;obtain ⟨a5,c5,e5,R5⟩:=jM a0.o D1.den;obtain ⟨a6,c6,e6,R6⟩:=jM Y.o D2.den;cases e5;cases e6;have H5:Eq (aw 0 wr (pT g1) y c1 (B.filter p)):=R5;have H6:Eq (aw 0 wr (pT g2) n2 H (B.filter q)):=R6;clear D1 D2 Q R5 R6;go_wp2;exact bodyPost_ret (v:=.tuple #[sL g1 y c1,sL g2 n2 H]) (by simp [results,Tryz.results177,go_sem]) rfl ⟨_,_,_,_,_,_,rfl,H5.o,H6.o,HK.o⟩
theorem tc (a:Option Addr) (n c:Nat) (B:List af) (w:World) (h:aw 0 w a n c B) (hn:n≤1000) :
 Calls Tryz.prog 178 #[.slice a n c] w (ss n B w):=by
 have W:=az h;have HL:=az h.length;obtain ⟨i0,hi,D,I,N⟩:=info_parts Tryz.infoEntS;have R1:Eq ((w.alloc (.cells #[] 28)).ownsRow w.heap.size 28 1 (sL (w.heap.size) 0 0) 0 []):=by
  have:=Hi (base:=w.heap.size) (e:=28) (size:=1) w #[] 0 (GL _) (by simp) (by simp);show World.ownsRow _ _ _ _ _ _ _
  simpa using this
 have K1:Eq (Bl w (w.alloc (.cells #[] 28))):=bZ;go_enter Tryz.func178,Tryz.ntmps178
 go_wp2;go_loopw [3,4] (fun vv T wr=>∃(i:Nat) (vs:List Value),i≤n∧T=iT i∧wr.ownsRow w.heap.size 28 1 vv i vs∧sW w vs (bG (B.take i))∧Bl w wr) (fun _ T _=>n - (intOf T).toNat)
 case atStart=>exact ⟨0,[],GQ _,rfl,R1.o,DX _,K1.o⟩
 case round =>
  obtain ⟨i,vs,a5,rfl,hr,hd,hb⟩:=hrel;have Y:=az hr;have HD:=az hd;have R:=az hb;by_cases x:i<n
  · have t:(i:Int)<(n:Int):=by omega
    obtain ⟨b,a6,rfl,Q⟩:=W.o.form (by omega);obtain ⟨L,m,s,len,f,hg,a2,c0,c1,hE⟩:=W.o.run (Below.refl _ w) i x;have HG:=az hg;have HE:=az hE.1;have c0:=cell_later hb c0;have c1:=cell_later hb c1;have zb:=E' Q hb.size;have U:Bl wr (wr.alloc (.cells #[.slice s len f] 28)):=bZ;have E:=dU wr (.slice s len f) 28
    have F:=az E;have X:=az (bD Y.o U);have O:=az (R.o.trans (U.mono R.o.size));go_wp2_with (at_builtin;refine wpList_append_own _ rfl _ _ 102 rfl w.heap.size 28 i0 _ 1 24 Tryz.underlying102 hi D I N rfl (by decide) _ _ _ rfl X.o ⟨wr.heap.size,0,none⟩ 1 1 [.slice s len f] rfl rfl F.o (by intro u Z;simp at Z;subst Z;rfl) (by unfold maxLen;omega) (by omega) O.o.size ?_;intro v3 w3 g d H)
    have KB:Eq (Bl w w3):=O.o.grown d O.o.size (fun k e=>(X.o.lt k e).1);have J:=az g;go_roundw
    case rel=>exact ⟨i+1,vs++[.slice s len f],by omega,by go_num,J.o,(by rw [ww HG.o];exact HD.o.snoc HE.o),KB.o⟩
    case measure=>simp [intOf];omega
  · have t:¬(i:Int)<(n:Int):=by omega
    obtain rfl:i=n:=by omega
    have r:B.take i=B:=GV (by rw [HL.o];omega);have hd:=HD.o;rw [r] at hd;have y:=az hd;go_wp2;go_ret;exact (show ss _ B w _ _ from ⟨_,vs,rfl,Y.o,y.o,R.o⟩)
end Go.Proofs.YtpobkmjicbobdaaGreat
