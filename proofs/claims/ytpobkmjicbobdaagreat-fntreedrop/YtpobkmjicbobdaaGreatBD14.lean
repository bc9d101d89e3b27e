/- Walks. -/
import Derived.Test.YtpobkmjicbobdaaGreatBD13
namespace Go.Proofs.YtpobkmjicbobdaaGreat
set_option maxRecDepth 100000
set_option maxHeartbeats 40000000
open Go.RowKit
variable {A B:List af} {K L M:List ac} {P:List (List ac)} {S:List Int} {V:List (List af)} {ak am:Option Addr} {b1 b2 b3 base ck cm hi hi' i lo lo' n nk nm ns nv:Nat} {bs gs:Nat→Nat} {es:Nat→Nat→Nat} {q:Int} {v:Value} {vs xs:List Value} {w w':World}
theorem D9 (w:World) (g o:Nat) (u:Value):dy g (g+1) w (w.setCell ⟨g,o,none⟩ u):=⟨rfl,rfl,rfl,by simp [World.setCell],fun q _ hq=>Below.heap_setCell _ _ _ _ (fun e=>by have b:q=g:=e;omega)⟩
structure ow (w:World) (am:Option Addr) (nm cm:Nat) (a0:Option Addr) (n0 c0:Nat) (a1:Option Addr) (n1 c1:Nat) (a2:Option Addr) (n2 c2:Nat) (ak:Option Addr) (nk ck:Nat) (M:List ac) (A B C:List af) (S:List Int):Prop where
 mem:aj w am nm cm M
 r0:aw 0 w a0 n0 c0 A
 r1:aw 0 w a1 n1 c1 B
 r2:aw 0 w a2 n2 c2 C
 sn:aR 0 w ak nk ck S
theorem ow.keep {a0 a1 a2:Option Addr} {d c0 b c1 n2 c2:Nat} {C:List af} (h:ow w am nm cm a0 d c0 a1 b c1 a2 n2 c2 ak nk ck M A B C S) (hb:Bl w w'):ow w' am nm cm a0 d c0 a1 b c1 a2 n2 c2 ak nk ck M A B C S:=⟨h.mem.keep hb,h.r0.keep hb,h.r1.keep hb,h.r2.keep hb,h.sn.keep hb⟩
def EO (w:World) (e:Ending) (w':World):Prop :=
 ∃q2 am2 nm2 cm2 a02 n02 c02 a12 n12 c12 a22 n22 c22 ak2 nk2 ck2,e=.returned (.tuple #[.agg #[iT q2,.slice am2 nm2 cm2,.slice a02 n02 c02,.slice a12 n12 c12,.slice a22 n22 c22,.slice ak2 nk2 ck2],.bool false])∧Bl w w'
theorem fe.lowO (h:fe lo hi w b1 nm b2 nv b3 ns M V S gs bs es) (hl:lo'≤lo):fe lo' hi w b1 nm b2 nv b3 ns M V S gs bs es:=by
 obtain ⟨xs,h1,h2⟩:=h.levs.row;exact ⟨h.mem.mono hl,⟨h.levs.len,⟨xs,iN h1 hl,h2⟩,h.levs.levs,⟨Gq hl h.levs.bot.1,h.levs.bot.2⟩,h.levs.up,h.levs.top⟩,⟨h.sn.1,iN h.sn.2 hl⟩,h.ahead⟩
theorem fe.highO (h:fe lo hi w b1 nm b2 nv b3 ns M V S gs bs es) (hl:hi≤hi'):fe lo hi' w b1 nm b2 nv b3 ns M V S gs bs es :=
 ⟨h.mem,⟨h.levs.len,h.levs.row,h.levs.levs,h.levs.bot,h.levs.up,Gq h.levs.top hl⟩,h.sn,h.ahead⟩
theorem lL {X:Nat} (h:fe lo hi w b1 nm b2 nv b3 ns M V S gs bs es) (b:X<lo) (hl:lo'≤lo) (hh:hi≤hi') (u0 u1 u2 u3:Value):fe lo' hi' ((((w.setCell ⟨X,0,none⟩ u0).setCell ⟨X,1,none⟩ u1).setCell ⟨X,2,none⟩ u2).setCell ⟨X,3,none⟩ u3) b1 nm b2 nv b3 ns M V S gs bs es :=
 ((h.keepO ((((D9 _ _ _ _).trans (D9 _ _ _ _)).trans (D9 _ _ _ _)).trans (D9 _ _ _ _)) b).lowO hl).highO hh
theorem bn.share {x:Int} {H:Option Addr} {D:Nat} (f:bn lo w am nm cm H nv D ak nk ck M V S) (t:aT x M V S=true):∃b d A B C a0 g c0 a1 r c1 a2 n2 o,H=some ⟨b,d,none⟩∧nv=3∧V=[A,B,C]∧ow w am nm cm a0 g c0 a1 r c1 a2 n2 o ak nk ck M A B C S∧(∀w',Bl w w'→Calls Tryz.prog 86 #[.agg #[iT x,.slice am nm cm,sO b d 3 D,.slice ak nk ck]] w' fun e F=>e=.returned (.tuple #[.agg #[iT x,.slice am nm cm,.slice a0 g c0,.slice a1 r c1,.slice a2 n2 o,.slice ak nk ck],.bool true])∧Bl w' F):=by
 obtain ⟨A,B,C,E⟩:=gH t;subst E;have y:nv=3:=f.levels.length.symm;subst y;obtain ⟨b,d,rfl,I⟩:=f.levels.form (by omega);obtain ⟨O,a0,g,c0,hA,l0,m⟩:=f.levels.level (Below.refl _ w) 0 (by omega);obtain ⟨N,a1,r,c1,hB,l1,u⟩:=f.levels.level (Below.refl _ w) 1 (by omega);obtain ⟨J,a2,n2,o,hC,l2,s⟩:=f.levels.level (Below.refl _ w) 2 (by omega);simp only [Ic,Hg,Hy] at hA hB hC;subst hA hB hC;rw [Hl] at l0;refine ⟨b,d,A,B,C,a0,g,c0,a1,r,c1,a2,n2,o,rfl,rfl,rfl,⟨f.mem.1,m.mono (Gl _),u.mono (Gl _),s.mono (Gl _),f.snaps.lower (Gl _)⟩,fun w' k=>?_⟩;have:=iU lo x am ak nm cm b d D nk ck M A B C S a0 a1 a2 g c0 r c1 n2 o w' (f.mem.1.keep k) (f.snaps.keep k) (m.keep k) (u.keep k) (s.keep k) (cell_later k l0) (cell_later k l1) (cell_later k l2);rw [t] at this;exact this
structure wO (M:List ac) (A B C:List af) (S:List Int):Prop where
 bm:M.length≤1048576
 bk:S.length≤1048576
 em:rl M
 b0:ki A
 b1:ki B
 b2:ki C
 e0:iF A
 e1:iF B
 e2:iF C
theorem wH (q:Int) (am ak:Option Addr) (nm cm nk ck:Nat) (a0 a1 a2:Option Addr) (d c0 b c1 n2 c2:Nat) (M:List ac) (A B C:List af) (S:List Int) (w:World) (h:ow w am nm cm a0 d c0 a1 b c1 a2 n2 c2 ak nk ck M A B C S) (ho:wO M A B C S) :
 Calls Tryz.prog 92 #[.agg #[iT q,.slice am nm cm,.slice a0 d c0,.slice a1 b c1,.slice a2 n2 c2,.slice ak nk ck]] w (FS q nm nk M [A,B,C] S w) :=
 DI 0 q am ak nm cm nk ck a0 a1 a2 d c0 b c1 n2 c2 M A B C S w h.mem h.sn h.r0 h.r1 h.r2 (by have:=h.mem.length;have:=ho.bm;omega) (by have:=h.sn.length;have:=ho.bk;omega) ho.em ho.b0 ho.b1 ho.b2 ho.e0 ho.e1 ho.e2
def FP (q2:Int) (M2:List ac) (A2 B2 C2:List af) (S2:List Int) (w:World) (e:Ending) (w':World):Prop :=
 ∃am2 nm2 cm2 a02 n02 c02 a12 n12 c12 a22 n22 c22 ak2 nk2 ck2,e=.returned (.tuple #[.agg #[iT q2,.slice am2 nm2 cm2,.slice a02 n02 c02,.slice a12 n12 c12,.slice a22 n22 c22,.slice ak2 nk2 ck2],.bool true])∧ow w' am2 nm2 cm2 a02 n02 c02 a12 n12 c12 a22 n22 c22 ak2 nk2 ck2 M2 A2 B2 C2 S2∧Bl w w'
def zC (w:World) (e:Ending) (w':World):Prop:=e=.returned (.tuple #[.agg #[iT 0,nZ,nZ,nZ],.bool false])∧Bl w w'
theorem AG {e:Ending} (h:zC w e w'):pf 0 [] [] [] false w e w':=⟨none,0,none,0,none,0,fun _=>0,fun _=>0,fun _ _=>0,h.1,.inr ⟨rfl,rfl,rfl,rfl,rfl,rfl,rfl,rfl,rfl⟩,h.2⟩
theorem AZ {e:Ending} (h:zC w e w'):DS 0 [] [] [] false w e w':=⟨none,0,0,none,0,0,none,0,0,h.1,pB 0 w',h.2⟩
theorem Bw (lo:Nat) (s:Int) (fv:Value) (am t ak:Option Addr) (nm cm nv r nk ck:Nat) (M:List ac) (V:List (List af)) (S:List Int) (w:World) (f:bn lo w am nm cm t nv r ak nk ck M V S) (y:aT s M V S=false) :
 Calls Tryz.prog 61 #[.agg #[iT s,.slice am nm cm,.slice t nv r,.slice ak nk ck],fv] w (zC w):=by
 have u:Eq (V.length=nv):=f.levels.length;have CS:Eq (∀w',Bl w w'→Calls Tryz.prog 86 #[.agg #[iT s,.slice am nm cm,.slice t nv r,.slice ak nk ck]] w' fun e m=>(∃(I:Int) (m' x0 x1 Y U:Value),e=.returned (.tuple #[.agg #[iT I,m',x0,x1,Y,U],.bool false])∧(∃a n c,m'=.slice a n c)∧(∃a n c,x0=.slice a n c)∧(∃a n c,x1=.slice a n c)∧(∃a n c,Y=.slice a n c)∧(∃a n c,U=.slice a n c))∧Bl w' m):=fun w' k=>by
  by_cases hn:nv=3
  · subst hn;obtain ⟨A,B,C,H⟩:∃A B C,V=[A,B,C]:=by
     have:=u.o;match V,this with
     | [A,B,C],_=>exact ⟨A,B,C,rfl⟩
    subst H;obtain ⟨b,N,rfl,aa⟩:=f.levels.form (by omega);obtain ⟨A',a0,n0,c0,hA,l0,J⟩:=f.levels.level (Below.refl _ w) 0 (by omega);obtain ⟨B',a1,n1,c1,hB,l1,Q⟩:=f.levels.level (Below.refl _ w) 1 (by omega);obtain ⟨C',a2,n2,c2,hC,l2,O⟩:=f.levels.level (Below.refl _ w) 2 (by omega);simp only [Ic,Hg,Hy] at hA hB hC;subst hA hB hC;rw [Hl] at l0;have:=iU lo s am ak nm cm b N r nk ck M A B C S a0 a1 a2 n0 c0 n1 c1 n2 c2 w' (f.mem.1.keep k) (f.snaps.keep k) (J.keep k) (Q.keep k) (O.keep k) (cell_later k l0) (cell_later k l1) (cell_later k l2);rw [y] at this;refine this.mono ?_;rintro e m ⟨rfl,hb⟩;exact ⟨⟨_,_,_,_,_,_,rfl,⟨_,_,_,rfl⟩,⟨_,_,_,rfl⟩,⟨_,_,_,rfl⟩,⟨_,_,_,rfl⟩,⟨_,_,_,rfl⟩⟩,hb⟩
  · refine (jU s am t ak nm cm nv r nk ck w' hn).mono ?_;rintro e m ⟨rfl,hb⟩;exact ⟨⟨_,_,_,_,_,_,rfl,⟨_,_,_,rfl⟩,⟨_,_,_,rfl⟩,⟨_,_,_,rfl⟩,⟨_,_,_,rfl⟩,⟨_,_,_,rfl⟩⟩,hb⟩
 obtain ⟨X,D⟩:=aF w.heap.size;obtain ⟨W,F⟩:=aF ((w.alloc (.cells #[iT s,.slice am nm cm,.slice t nv r,.slice ak nk ck] 31)).alloc (.cells #[iT 0,nZ,nZ,nZ] 31));have R:Bl w W:=by rw [F];exact bZ.alloc (by simp) _
 have T:ay W (X+1) (iT 0) nZ nZ nZ:=by
  have:=ay.new (w.alloc (.cells #[iT s,.slice am nm cm,.slice t nv r,.slice ak nk ck] 31)) 31 (iT 0) nZ nZ nZ;rw [Gu] at this;rw [F,D];exact this
 have HX:Eq (X=w.heap.size):=D;have E:Eq (Bl w W):=R;clear f R y u;go_enter Tryz.func61,Tryz.ntmps61
 go_wp2_with fail
 rw [← D,← F];clear D F;refine (CS.o _ E.o).mono ?_;rintro e Z ⟨⟨I,_,_,_,_,_,rfl,⟨m1,m2,m3,rfl⟩,⟨y1,y2,y3,rfl⟩,⟨z1,z2,z3,rfl⟩,⟨u1,u2,u3,rfl⟩,⟨v1,v2,v3,rfl⟩⟩,d⟩;obtain ⟨w2,g⟩:=aF (Z.alloc (.cells #[iT I,.slice m1 m2 m3,.slice y1 y2 y3,.slice z1 z2 z3,.slice u1 u2 u3,.slice v1 v2 v3] 82));have k2:Bl Z w2:=by rw [g];exact bZ
 have K1:Eq (Bl w w2):=(E.o.trans (d.mono E.o.size)).trans (k2.mono (Gq E.o.size d.size));have x:=(T.keep d).keep k2;have r0:=x.all;clear d T k2;go_upto_region 2 with fail
 rw [← g];clear g;go_wp2;refine bodyPost_ret (v:=.tuple #[.agg #[iT 0,nZ,nZ,nZ],.bool false]) ?_ rfl ⟨rfl,?_⟩
 · have e:=(((x.set0 (iT 0)).set1 nZ).set2 nZ).set3 nZ;simp [results,Tryz.results61,go_sem,e.all]
 · have hx:w.heap.size≤X+1:=by have:=HX.o;omega
   exact lD K1.o hx _ _ _ _
theorem Ex:∀c:List ac,c≠[]→mW false c≠[]
 | [],h=>absurd rfl h
 | e :: R,_=>by
  rw [vX (e:=e) false rfl]
  unfold eo
  split
  · simp
  · simp
theorem AO (b:List (List ac)):(b.foldr (Sq.stepD mW) (false,[])).1=false:=by
 induction b with
 | nil=>rfl
 | cons c b d =>
  rw [List.foldr_cons];show (if _ then _ else false)=false
  split
  · exact d
  · rfl
theorem Ar {G:List ac} (hG:G≠[]):eV S false G≠[]:=by
 unfold eV Sq.leftD;cases hp:Sq.parts (ib S) G with
 | nil =>
  have h:=Sq.parts_flat (ib S) G;rw [hp] at h;exact absurd h.symm hG
 | cons c b =>
  have hc:=kV (ib S) G c (by rw [hp];simp);rw [List.foldr_cons];show mW _ c++_≠[]
  rw [AO b];intro h;exact Ex c hc (List.append_eq_nil_iff.1 h).1
theorem uL (hr:aI M=true) (hM:M≠[]) (S:List Int):bU M S false≠[]:=by
 unfold bU;rw [if_pos hr];cases hp:Sq.parts fl M with
 | nil =>
  have h:=Sq.parts_flat fl M;rw [hp] at h;exact absurd h.symm hM
 | cons G b =>
  have hG:=kV fl M G (by rw [hp];simp);rw [IS];intro h;exact Ar hG (List.append_eq_nil_iff.1 h).1
theorem xp (h:aI L=true):bG L=L:=by
 have hb:=bO L;exact (jG (gY h) hb.1 hb.2.symm).symm
def dW (p:Nat→Prop) (w:World) (xs:List Value) (B:List af):Prop :=
 xs.length=B.length*2∧∀i (r:af),B[i]?=some r→(Lit.int .i64 r.2).wf=true∧∃s n c,xs[i*2]?=some (.slice s n c)∧xs[i*2+1]?=some (iT r.2)∧aj w s n c r.1∧∀x,s=some x→0<n→p x.block
theorem dW.den {p:Nat→Prop} (h:dW p w xs B):mi w xs B :=
 ⟨h.1,fun i r hr=>by obtain ⟨h1,s,n,c,h2,h3,h4,_⟩:=h.2 i r hr;exact ⟨h1,s,n,c,h2,h3,h4,fun x e _=>Gl _⟩⟩
theorem mi.denP (h:mi w xs B):dW (·<w.heap.size) w xs B :=
 ⟨h.1,fun i r hr=>by obtain ⟨h1,s,n,c,h2,h3,h4⟩:=h.2 i r hr;exact ⟨h1,s,n,c,h2,h3,h4.1,fun x e hp=>(h4.1.lies x e hp).1⟩⟩
theorem dW.imp {p d:Nat→Prop} (h:dW p w xs B) (hp:∀b,p b→d b):dW d w xs B :=
 ⟨h.1,fun i r hr=>by obtain ⟨h1,s,n,c,h2,h3,h4,h5⟩:=h.2 i r hr;exact ⟨h1,s,n,c,h2,h3,h4,fun x e hn=>hp _ (h5 x e hn)⟩⟩
theorem dW.same {p:Nat→Prop} (h:dW p w xs B) (hs:w.heap.size≤w'.heap.size) (hb:∀b,p b→b<w.heap.size→w'.heap[b]?=w.heap[b]?):dW p w' xs B :=
 ⟨h.1,fun i r hr=>by
  obtain ⟨h1,s,n,c,h2,h3,h4,h5⟩:=h.2 i r hr
  exact ⟨h1,s,n,c,h2,h3,h4.moved hs (fun x e hn o=>G8 (hb _ (h5 x e hn) (h4.lies x e hn).1)),h5⟩⟩
theorem dW.keepO (h:dW (fun b=>b<lo∨hi≤b) w xs B) (k:dy lo hi w w'):dW (fun b=>b<lo∨hi≤b) w' xs B:=h.same k.size (fun b hp hl=>k.block b hl hp)
theorem dW.below {p:Nat→Prop} (h:dW p w xs B) (k:Bl w w'):dW p w' xs B:=h.same k.size (fun b _ hl=>k.block b hl)
theorem dW.low (h:dW (·<w.heap.size) w xs B) (k:Bl w w'):dW (·<w.heap.size) w' xs B:=h.same k.size (fun b hp _=>k.block b hp)
theorem dW.app {p:Nat→Prop} {b:List Value} (h:dW p w xs A) (k:dW p w b B):dW p w (xs++b) (A++B):=by
 have hl:=h.1;have kl:=k.1;refine ⟨by rw [Gj,Gj,hl,kl];omega,fun i r hr=>?_⟩;by_cases hi:i<A.length
 · rw [Gt hi] at hr;rw [Gt (by omega),Gt (by omega)];exact h.2 i r hr
 · rw [Gm (by omega)] at hr;rw [Gm (by omega),Gm (by omega),show i*2 - xs.length=(i - A.length)*2 by omega,show i*2+1 - xs.length=(i - A.length)*2+1 by omega];exact k.2 _ r hr
def l7 (M:List ac) (S:List Int):af:=(bU M S false,((dG (bU M S false):Nat):Int))
def Fu (q:Int) (i:Nat) (e:ac):ac:=(e.1,q+1+i,e.2.2)
def ft (q:Int) (K:List ac):List ac:=K.mapIdx (Fu q)
theorem BL {e:ac} (h:K[i]?=some e):ft q (K.take (i+1))=ft q (K.take i)++[Fu q i e]:=by
 have hi:=(F'.1 h).1;unfold ft;rw [GH,h];simp only [Option.toList_some];rw [List.mapIdx_concat,Gn,Nat.min_eq_left (by omega)]
theorem fN (q:Int) (K:List ac):(ft q K).length=K.length:=by simp [ft]
def oZ (q:Int) (K:List ac) (i:Nat):Bool:=match K[i]? with
 | none=>true
 | some e=>decide (e.2.1=0) && dq e.1 (q+1+i) e.2.2.1 e.2.2.2.1 e.2.2.2.2
def fg (q:Int) (K:List ac):Bool:=(List.range K.length).all (oZ q K)
theorem zL (hl:K.length=n) (h:∀j,j<n→oZ q K j=true):fg q K=true:=by
 unfold fg;rw [GL];intro j b;exact h j (by rw [← hl];exact G7.1 b)
theorem uK (hi:i<K.length) (h:oZ q K i=false):fg q K=false:=by
 unfold fg;rw [List.all_eq_false];exact ⟨i,G7.2 hi,by rw [h];simp⟩
theorem E6 {e:ac} (h:K[i]?=some e) (h0:¬e.2.1=0):oZ q K i=false:=by
 unfold oZ;rw [h];simp [h0]
theorem Fw {e:ac} (h:K[i]?=some e) (h0:e.2.1=0):oZ q K i=dq e.1 (q+1+i) e.2.2.1 e.2.2.2.1 e.2.2.2.2:=by
 unfold oZ;rw [h];simp [h0]
theorem zM (h:fg q K=true) {i:Nat} {e:ac} (b:(ft q K)[i]?=some e):dq e.1 e.2.1 e.2.2.1 e.2.2.2.1 e.2.2.2.2=true:=by
 have hi:=(F'.1 b).1;rw [fN] at hi;unfold fg at h;rw [GL] at h;have h1:=h i (G7.2 hi);have hk:=j' hi;unfold oZ at h1;rw [hk] at h1;simp only [Gx] at h1;unfold ft at b;rw [List.getElem?_mapIdx,hk] at b;simp only [Option.map_some,Hy] at b;subst b;exact h1.2
def ie (q:Int) (M K:List ac):Bool:=decide (1≤K.length) && (decide (K.length≤12) && (decide (M.length+K.length≤60) && fg q K))
theorem rZ (w:World) (s:ByteArray) (Q d:Int) (t:ByteArray) (m:Int):∀j u,[Value.string s,iT Q,iT d,.string t,iT m][j]?=some u→(w.alloc (.cells #[.string s,iT Q,iT d,.string t,iT m] 50)).cell? ((⟨w.heap.size,0,none⟩:Addr).add j)=some u:=by
 intro j u b;rw [Gv];match j,b with
 | 0,b=>simp at b;subst b;simp
 | 1,b=>simp at b;subst b;simp
 | 2,b=>simp at b;subst b;simp
 | 3,b=>simp at b;subst b;simp
 | 4,b=>simp at b;subst b;simp
theorem bH {w w':World} {base e size n:Nat} {v:Value} {xs:List Value} (h:w.ownsRow base e size v n xs) (hb:Bl w w'):w'.ownsRow base e size v n xs:=h.kept (row:=none) ⟨hb.os,hb.tape,hb.output,hb.size,fun k hk _=>hb.block k hk⟩ (by
 cases v.ownBlock with
 | none=>exact .inl rfl
 | some x=>exact .inr (by simp))
def kf (q:Int) (K:List ac) (n:Nat) (w:World) (e:Ending) (w':World):Prop:=∃v ok,e=.returned (.tuple #[v,.bool ok])∧(fg q K=true→(∃g c',v=sL g n c'∧ah w' w.heap.size g n c' (ft q K))∧ok=(decide (1≤n) && decide (n≤12)))∧(fg q K=false→ok=false∧∃a m c' L,v=.slice a m c'∧aj w' a m c' L)∧Bl w w'
theorem vU (p:Nat→Prop) (w:World):dW p w [] []:=⟨rfl,fun i r h=>by simp at h⟩
theorem mO {s:Option Addr} {c:Nat} {m:Int} (hm:(Lit.int .i64 m).wf=true) (h:aj w s n c L):dW (·<w.heap.size) w [.slice s n c,iT m] [(L,m)]:=by
 refine ⟨rfl,fun i r hr=>?_⟩;match i,hr with
 | 0,hr=>cases hr;exact ⟨hm,s,n,c,rfl,rfl,h,fun x e hp=>(h.lies x e hp).1⟩
def r9 (w:World) (vs:List Value) (P:List (List ac)):Prop:=vs.length=P.length∧∀(j:Nat) (L:List ac),P[j]?=some L→∃(s:Option Addr) (m d:Nat),vs[j]?=some (Value.slice s m d)∧aj w s m d L
theorem Dz (w:World):r9 w [] []:=⟨rfl,fun j L h=>by simp at h⟩
theorem r9.keep (h:r9 w vs P) (hb:Bl w w'):r9 w' vs P:=⟨h.1,fun j L b=>by
 obtain ⟨s,m,d,h1,h2⟩:=h.2 j L b
 exact ⟨s,m,d,h1,h2.keep hb⟩⟩
theorem r9.snoc (h:r9 w vs P) {s:Option Addr} {m d:Nat} {L:List ac} (hE:aj w s m d L):r9 w (vs++[.slice s m d]) (P++[L]):=by
 have hl:=h.1;refine ⟨by simp [hl],fun j X b=>?_⟩;by_cases f:j<P.length
 · rw [Gt f] at b;obtain ⟨g,r,o,h1,h2⟩:=h.2 j X b;exact ⟨g,r,o,by rw [Gt (by omega)];exact h1,h2⟩
 · rw [Gm (by omega)] at b;have e:j - P.length=0:=by
    have:=(F'.1 b).1;simp at this;omega
   rw [e] at b;cases b;exact ⟨s,m,d,by rw [Gm (by omega),show j - vs.length=0 by omega];rfl,hE⟩
def ru (n:Nat) (B:List af) (w:World) (e:Ending) (w':World):Prop:=∃v vs,e=.returned v∧w'.ownsRow w.heap.size 28 1 v n vs∧r9 w vs (bE B)∧Bl w w'
theorem vo (h:w.ownsRow base 28 1 v n vs) (d:r9 w vs P):∃a c,v=.slice a n c∧df w a n c P:=by
 have hn:P.length=n:=by have h1:=h.1;have h2:=d.1;omega
 rcases h.2 with ⟨hv,h0⟩ | ⟨g,f,o,hv,_⟩
 · subst hv h0;exact ⟨none,0,rfl,hn,Gg _,Gl _,fun _=>rfl,(fun x e=>by cases e),fun x e=>by cases e⟩
 · subst hv;have b:=cy h;refine ⟨_,f,rfl,hn,b.1,b.2,(fun e=>by cases e),(fun x e _=>by cases e;exact ⟨(h.lt g rfl).2,rfl⟩),fun x e i hi=>?_⟩;cases e;obtain ⟨s,m,r,h1,h2⟩:=d.2 i _ (j' hi);have hc:=h.cells (g:=g) rfl i _ h1;rw [Gv] at hc;exact ⟨s,m,r,hc,h2⟩
theorem pI (a:Option Addr) (n c:Nat) (B:List af) (low f:ByteArray) (w:World) (h:aw 0 w a n c B) (a4:∀r ∈ B,1≤r.1.length) (hn:n≤1000) :
 Calls Tryz.prog 177 #[.slice a n c,.string low,.string f] w fun e w'=>∃g1 y c1 g2 n2 F,e=.returned (.tuple #[sL g1 y c1,sL g2 n2 F])∧aw 0 w' (pT g1) y c1 (B.filter (ep low f))∧aw 0 w' (pT g2) n2 F (B.filter (fun r=>!ep low f r))∧Bl w w':=by
 have HB:=az h;have HL:Eq (B.length=n):=h.length;have aD:=az a4;obtain ⟨i0,hi,ai,al,aa⟩:=info_parts Tryz.infoRun;clear h a4;obtain ⟨p,hp⟩:=aF (ep low f);obtain ⟨q,hq⟩:∃q:af→Bool,q=fun r=>!ep low f r:=⟨_,rfl⟩
 have I:Eq (∀r,p r=ep low f r∧q r=!p r):=fun r=>by rw [hp,hq];exact ⟨rfl,rfl⟩
 rw [← hq,← hp];clear hp hq;have R1:Eq ((w.alloc (.cells #[] 63)).ownsRow w.heap.size 63 2 (sL (w.heap.size) 0 0) 0 []):=by
  have:=GP (base:=w.heap.size) (e:=63) (size:=2) w #[] 0 (Gg _) (by simp) (by simp);show World.ownsRow _ _ _ _ _ _ _
  simpa using this
 have K1:Eq (Bl w (w.alloc (.cells #[] 63))):=bZ;have R2:Eq (((w.alloc (.cells #[] 63)).alloc (.cells #[] 63)).ownsRow w.heap.size 63 2 (sL (w.heap.size+1) 0 0) 0 []):=by
  have:=GP (base:=w.heap.size) (e:=63) (size:=2) (w.alloc (.cells #[] 63)) #[] 0 (by simp) (by simp) (by simp);show World.ownsRow _ _ _ _ _ _ _
  rw [Gu] at this;simpa using this
 have K2:Eq (Below (w.alloc (.cells #[] 63)).heap.size (w.alloc (.cells #[] 63)) ((w.alloc (.cells #[] 63)).alloc (.cells #[] 63))):=bZ;go_enter Tryz.func177,Tryz.ntmps177
 go_wp2;go_loopw [8,9,10] (fun v1 v2 iv wr=>∃(i g1 y c1 g2 n2 F:Nat) (xs R:List Value),i≤n∧iv=iT i∧v1=sL g1 y c1∧v2=sL g2 n2 F∧g1≠g2∧y+n2≤i∧wr.ownsRow w.heap.size 63 2 (sL g1 y c1) y xs∧wr.ownsRow w.heap.size 63 2 (sL g2 n2 F) n2 R∧dW (·<w.heap.size) w xs ((B.take i).filter p)∧dW (·<w.heap.size) w R ((B.take i).filter q)∧Bl w wr) (fun _ _ iv _=>n - (intOf iv).toNat)
 case atStart =>
  refine ⟨0,w.heap.size,0,0,w.heap.size+1,0,0,[],[],Gl _,rfl,rfl,by first | rfl | simp,by omega,Gg _,cw R1.o K2.o,R2.o,vU _ _,vU _ _,K1.o.trans (K2.o.mono K1.o.size)⟩
 case round =>
  clear R1 R2 K1 K2;obtain ⟨i,g1,y,c1,g2,n2,F,xs,R,b5,rfl,rfl,rfl,ag,aJ,ad,a7,ab,a3,hb⟩:=hrel;have Z:Eq (wr.ownsRow w.heap.size 63 2 (sL g1 y c1) y xs):=ad;have X:Eq (wr.ownsRow w.heap.size 63 2 (sL g2 n2 F) n2 R):=a7;have a0:Eq (dW (·<w.heap.size) w xs ((B.take i).filter p)):=ab;have U:Eq (dW (·<w.heap.size) w R ((B.take i).filter q)):=a3;have HK:Eq (Bl w wr):=hb;have E:Eq (g1≠g2):=ag;have H:Eq (y+n2≤i):=aJ;clear ad a7 ab a3;by_cases aG:i<n
  · have ao:(i:Int)<(n:Int):=by omega
    obtain ⟨b,an,rfl,aC⟩:=HB.o.form (by omega);obtain ⟨L,m,s,len,g,hg,a9,c0,N,hE⟩:=HB.o.run (Below.refl _ w) i aG;have HG:Eq (B[i]?=some (L,m)):=hg;have aq:Eq (dW (·<w.heap.size) w [.slice s len g,iT m] [(L,m)]):=mO a9 hE.1;have ae:1≤len:=by have h1:=aD.o _ (Gk hg);have h2:=hE.1.length;simp only at h1;omega
    obtain ⟨T,hT⟩:=aF (ep low f (L,m));have HT:Eq (T=ep low f (L,m)):=hT;have CM:Eq (Calls Tryz.prog 222 #[.agg #[.slice s len g,iT m],.string low,.string f] wr fun e w'=>e=.returned (.bool T)∧Bl wr w'):=by rw [hT];exact BS m s len g L low f wr (hE.1.keep hb) ae
    have C0:Eq (w.cell? ⟨b,an+i*2,none⟩=some (.slice s len g)∧w.cell? ⟨b,an+i*2+1,none⟩=some (iT m)):=⟨c0,N⟩;have c0:=cell_later hb c0;have N:=cell_later hb N;have zb:b<wr.heap.size:=E' aC hb.size;clear hg a9 hE hb hT ae;go_wp2_with fail
    refine CM.o.mono ?_;rintro e J ⟨rfl,D⟩;have K1:Eq (Bl w J):=HK.o.trans (D.mono HK.o.size);have S1:Eq (J.ownsRow w.heap.size 63 2 (sL g1 y c1) y xs):=cw Z.o D;have S2:Eq (J.ownsRow w.heap.size 63 2 (sL g2 n2 F) n2 R):=cw X.o D;have c0:=cell_later D c0;have N:=cell_later D N;have zb:=E' zb D.size;have a8:=bC J (.slice s len g) (iT m) 63;have aj:=az a8;have ka:Bl J (J.alloc (.cells #[.slice s len g,iT m] 63)):=bZ;have A1:Eq ((J.alloc (.cells #[.slice s len g,iT m] 63)).ownsRow w.heap.size 63 2 (sL g1 y c1) y xs):=cw S1.o ka;have A2:Eq ((J.alloc (.cells #[.slice s len g,iT m] 63)).ownsRow w.heap.size 63 2 (sL g2 n2 F) n2 R):=cw S2.o ka;have KA:Eq (Bl w (J.alloc (.cells #[.slice s len g,iT m] 63))):=K1.o.trans (ka.mono K1.o.size);clear D a8 ka Z X S1 S2 CM;cases T with
    | true =>
     go_wp2_with (at_builtin;refine wpList_append_own_at _ rfl _ _ 61 rfl w.heap.size 63 i0 _ 2 32 Tryz.underlying61 hi ai al aa rfl (by decide) _ _ _ rfl A1.o ⟨J.heap.size,0,none⟩ 1 1 [.slice s len g,iT m] rfl rfl aj.o (by intro u hu;simp at hu;rcases hu with rfl | rfl <;> rfl) (by have:=H.o;unfold maxLen;omega) (by have:=H.o;omega) KA.o.size ?_;intro v3 w3 x d t C;obtain ⟨Q,c3,rfl⟩:=aL x t)
     have W:Q≠g2:=by
      have h1:=(A2.o.lt g2 rfl).2;have h2:=E.o;rcases C with h | h
      · have h3:Q=g1:=Gi (show some Q=some g1 from h);omega
      · have h3:=Gi (show some Q=some _ from h);omega
     have Y:Eq (w3.ownsRow w.heap.size 63 2 (sL g2 n2 F) n2 R):=A2.o.kept d (.inr (fun e=>by have h1:g2=g1:=Gi (show some g2=some g1 from e);have:=E.o;omega));have KB:Eq (Bl w w3):=KA.o.grown d KA.o.size (fun k e=>(A1.o.lt k e).1);clear C d t;go_roundw
     case rel =>
      refine ⟨i+1,Q,y+1,c3,g2,n2,F,xs++[.slice s len g,iT m],R,by omega,by go_num,rfl,rfl,W,by have:=H.o;omega,x,Y.o,(by rw [iC HG.o,(I.o _).1,← HT.o];exact a0.o.app aq.o),(by rw [iC HG.o,(I.o _).2,(I.o _).1,← HT.o];simpa using U.o),KB.o⟩
     case measure=>simp [intOf];omega
    | false =>
     go_wp2_with (at_builtin;refine wpList_append_own_at _ rfl _ _ 61 rfl w.heap.size 63 i0 _ 2 32 Tryz.underlying61 hi ai al aa rfl (by decide) _ _ _ rfl A2.o ⟨J.heap.size,0,none⟩ 1 1 [.slice s len g,iT m] rfl rfl aj.o (by intro u hu;simp at hu;rcases hu with rfl | rfl <;> rfl) (by have:=H.o;unfold maxLen;omega) (by have:=H.o;omega) KA.o.size ?_;intro v3 w3 x d t C;obtain ⟨Q,c3,rfl⟩:=aL x t)
     have W:Q≠g1:=by
      have h1:=(A1.o.lt g1 rfl).2;have h2:=E.o;rcases C with h | h
      · have h3:Q=g2:=Gi (show some Q=some g2 from h);omega
      · have h3:=Gi (show some Q=some _ from h);omega
     have Y:Eq (w3.ownsRow w.heap.size 63 2 (sL g1 y c1) y xs):=A1.o.kept d (.inr (fun e=>by have h1:g1=g2:=Gi (show some g1=some g2 from e);have:=E.o;omega));have KB:Eq (Bl w w3):=KA.o.grown d KA.o.size (fun k e=>(A2.o.lt k e).1);clear C d t;go_roundw
     case rel =>
      refine ⟨i+1,g1,y,c1,Q,n2+1,c3,xs,R++[.slice s len g,iT m],by omega,by go_num,rfl,rfl,fun e=>W e.symm,by have:=H.o;omega,Y.o,x,(by rw [iC HG.o,(I.o _).1,← HT.o];simpa using a0.o),(by rw [iC HG.o,(I.o _).2,(I.o _).1,← HT.o];exact U.o.app aq.o),KB.o⟩
     case measure=>simp [intOf];omega
  · have ao:¬(i:Int)<(n:Int):=by omega
    have O:B.take i=B:=Gr (by rw [HL.o];omega);have D1:=a0.o.low HK.o;have D2:=U.o.low HK.o;rw [O] at D1 D2;obtain ⟨a5,c5,e5,R5⟩:=jt Z.o D1.den;obtain ⟨a6,c6,e6,R6⟩:=jt X.o D2.den;cases e5;cases e6;have H5:Eq (aw 0 wr (pT g1) y c1 (B.filter p)):=R5;have H6:Eq (aw 0 wr (pT g2) n2 F (B.filter q)):=R6;clear D1 D2 O R5 R6;go_wp2;exact bodyPost_ret (v:=.tuple #[sL g1 y c1,sL g2 n2 F]) (by simp [results,Tryz.results177,go_sem]) rfl ⟨_,_,_,_,_,_,rfl,H5.o,H6.o,HK.o⟩
theorem sj (a:Option Addr) (n c:Nat) (B:List af) (w:World) (h:aw 0 w a n c B) (hn:n≤1000) :
 Calls Tryz.prog 178 #[.slice a n c] w (ru n B w):=by
 have U:=az h;have HL:=az h.length;obtain ⟨i0,hi,C,H,J⟩:=info_parts Tryz.infoEntS;have R1:Eq ((w.alloc (.cells #[] 28)).ownsRow w.heap.size 28 1 (sL (w.heap.size) 0 0) 0 []):=by
  have:=GP (base:=w.heap.size) (e:=28) (size:=1) w #[] 0 (Gg _) (by simp) (by simp);show World.ownsRow _ _ _ _ _ _ _
  simpa using this
 have K1:Eq (Bl w (w.alloc (.cells #[] 28))):=bZ;go_enter Tryz.func178,Tryz.ntmps178
 go_wp2;go_loopw [3,4] (fun vv R wr=>∃(i:Nat) (vs:List Value),i≤n∧R=iT i∧wr.ownsRow w.heap.size 28 1 vv i vs∧r9 w vs (bE (B.take i))∧Bl w wr) (fun _ R _=>n - (intOf R).toNat)
 case atStart=>exact ⟨0,[],Gl _,rfl,R1.o,Dz _,K1.o⟩
 case round =>
  obtain ⟨i,vs,a4,rfl,hr,hd,hb⟩:=hrel;have X:=az hr;have Z:=az hd;have Q:=az hb;by_cases x:i<n
  · have t:(i:Int)<(n:Int):=by omega
    obtain ⟨b,a5,rfl,O⟩:=U.o.form (by omega);obtain ⟨L,m,s,len,f,hg,a1,c0,c1,hE⟩:=U.o.run (Below.refl _ w) i x;have HG:=az hg;have HE:=az hE.1;have c0:=cell_later hb c0;have c1:=cell_later hb c1;have zb:=E' O hb.size;have T:Bl wr (wr.alloc (.cells #[.slice s len f] 28)):=bZ;have D:=dO wr (.slice s len f) 28
    have E:=az D;have W:=az (bH X.o T);have N:=az (Q.o.trans (T.mono Q.o.size));go_wp2_with (at_builtin;refine wpList_append_own _ rfl _ _ 102 rfl w.heap.size 28 i0 _ 1 24 Tryz.underlying102 hi C H J rfl (by decide) _ _ _ rfl W.o ⟨wr.heap.size,0,none⟩ 1 1 [.slice s len f] rfl rfl E.o (by intro u Y;simp at Y;subst Y;rfl) (by unfold maxLen;omega) (by omega) N.o.size ?_;intro v3 w3 g d F)
    have KB:Eq (Bl w w3):=N.o.grown d N.o.size (fun k e=>(W.o.lt k e).1);have I:=az g;go_roundw
    case rel=>exact ⟨i+1,vs++[.slice s len f],by omega,by go_num,I.o,(by rw [vA HG.o];exact Z.o.snoc HE.o),KB.o⟩
    case measure=>simp [intOf];omega
  · have t:¬(i:Int)<(n:Int):=by omega
    obtain rfl:i=n:=by omega
    have r:B.take i=B:=Gr (by rw [HL.o];omega);have hd:=Z.o;rw [r] at hd;have y:=az hd;go_wp2;go_ret;exact (show ru _ B w _ _ from ⟨_,vs,rfl,X.o,y.o,Q.o⟩)
end Go.Proofs.YtpobkmjicbobdaaGreat
