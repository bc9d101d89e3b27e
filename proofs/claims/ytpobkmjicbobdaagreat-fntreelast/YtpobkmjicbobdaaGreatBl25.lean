/- Walks. -/
import Derived.Test.YtpobkmjicbobdaaGreatBl24
namespace Go.Proofs.YtpobkmjicbobdaaGreat
set_option maxRecDepth 100000
set_option maxHeartbeats 40000000
open Go.RowKit
variable {A B C:List an} {M:List ac} {S:List Int} {c lo:Nat} {q:Int} {v:Value} {w w':World}
theorem jU {b n i j:Nat} (h:ay lo w (pT b) n c B) (f:i≤j) (g:j≤n):ay lo w (some ⟨b,if c=i then 0 else i*2,none⟩) (j - i) (c - i) ((B.drop i).take (j - i)) where
 length:=by rw [C5,Dh,h.length];omega
 room:=by have:=h.room;omega
 big:=by have:=h.big;omega
 nil:=fun e=>by cases e
 lies:=fun x e hp=>by
  have h1:=h.lies _ rfl (by omega)
  cases e
  exact h1
 runs:=fun x e t d=>by
  rw [C5,Dh,h.length] at d
  have hc:¬c=i:=by have:=h.room;omega
  have hl:i+t<B.length:=by rw [h.length];omega
  have h1:=h.runs _ rfl (i+t) hl
  cases e
  rw [D3,D8,if_neg hc]
  simp only [C6] at h1
  rw [show i*2+t*2=(i+t)*2 by omega]
  exact h1
theorem x7 (lo:Nat) (q:Int) (n:Option Addr) (f g b m:Nat) (s:Option Addr) (d cs:Nat) (M:List ac) (A B C:List an) (S:List Int) (U ot J R:Nat) (pk:Int) (w:World) (hT:b6 lo w n f g (pT b) 3 m s d cs M [A,B,C] S) (aA:f≤1048576) (aO:d≤1048576) (ai:∀Z ∈ [A,B,C],Z.length≤100∧∀r ∈ Z,1≤r.1.length∧r.1.length≤10000) (N:w.cell? ⟨b,0,none⟩=some (sO U ot J R)) (a7:ay 0 w (some ⟨U,ot,none⟩) J R A) (aV:1≤J) (aD:J≤100) (af:fT A B) (a1:(bj (dz A B)).flatten.length≤100000) :
 Calls Tryz.prog 56 #[.agg #[iT q,.slice n f g,sL b 3 m,.slice s d cs],iT 0,iT pk] w (jO w.heap.size q (.agg #[iT q,.slice n f g,sL b 3 m,.slice s d cs]) M [] (dG A B C S 1) C S (uG A B C S 1) w):=by
 obtain ⟨X,hX⟩:=aH w.heap.size;obtain ⟨W,hW⟩:=aH ((w.alloc (.cells #[iT q,.slice n f g,sL b 3 m,.slice s d cs] 31)).alloc (.cells #[iT 0,nZ,nZ,nZ] 31));have kW:Bl w W:=by rw [hW];exact bZ.alloc (by simp) _
 have bx:az W X (iT q) (.slice n f g) (sL b 3 m) (.slice s d cs):=by rw [hW,hX];exact (az.new _ _ _ _ _ _).alloc _
 have br:az W (X+1) (iT 0) nZ nZ nZ∧au W (X+1) 31 4:=by
  have:=az.new (w.alloc (.cells #[iT q,.slice n f g,sL b 3 m,.slice s d cs] 31)) 31 (iT 0) nZ nZ nZ;rw [Dc] at this;rw [hW,hX];have h2:=cy (w.alloc (.cells #[iT q,.slice n f g,sL b 3 m,.slice s d cs] 31)) #[iT 0,nZ,nZ,nZ] 31;rw [Dc] at h2;exact ⟨this,h2⟩
 have HX:CG (X=w.heap.size):=hX;have K0:CG (Bl w W):=kW;have aG:CG (∀w',Bl W w'→az w' (X+1) (iT 0) nZ nZ nZ∧yl w' (X+1)):=fun w' k=>⟨br.1.keep k,fJ (br.2.below k) (br.1.keep k)⟩
 have a9:CG (∀w',Bl W w'→az w' X (iT q) (.slice n f g) (sL b 3 m) (.slice s d cs)):=fun w' k=>bx.keep k
 have aC:CG (∀w',Bl W w'→au w' (X+1) 31 4):=fun w' k=>br.2.below k
 have aX:=bO hT;have aL:b<w.heap.size:=(hT.levels.lies _ rfl (by omega)).1;have aJ:CG (b≠X∧b≠X+1):=⟨by omega,by omega⟩;obtain ⟨OK,a5⟩:=aH (uG A B C S 1);rw [← a5];have aB:CG (∀gb w',Bl w w'→w'.heap[gb]?=some (.cells #[] 63 (0,0))→w.heap.size≤gb→Calls Tryz.prog 119 #[.agg #[iT q,.slice n f g,sL b 3 m,.slice s d cs],iT 0,sO U ot J R,sL gb 0 0] w' (jO w.heap.size q (.agg #[iT q,.slice n f g,sL b 3 m,.slice s d cs]) M [] (dG A B C S 1) C S OK w')):=fun gb w' k h1 h2=>by
  rw [a5];exact Ax lo w.heap.size q n f g b m s d cs M A B C S U ot J R A gb w' (hT.keep k) aA aO ai (a7.keep k) aD h1 h2 af a1
 have a4:CG (∀w',Bl W w'→w'.cell? ⟨b,0,none⟩=some (sO U ot J R)):=fun w' k=>cell_later (kW.trans (k.mono kW.size)) N
 have aq:CG (∀w',az w' X (iT q) (.slice n f g) (sL b 3 m) (.slice s d cs)→w'.cell? ⟨b,0,none⟩=some (sO U ot J R)→(fun w'=>w'.cell? ⟨X,0,none⟩=some (iT q)∧w'.cell? ⟨X,1,none⟩=some (.slice n f g)∧w'.cell? ⟨X,2,none⟩=some (sL b 3 m)∧w'.cell? ⟨X,3,none⟩=some (.slice s d cs)∧w'.cell? ⟨b,0,none⟩=some (sO U ot J R)∧X<w'.heap.size∧b<w'.heap.size) w'):=fun w' h h2=>⟨h.c0,h.c1,h.c2,h.c3,h2,h.lt,Cz _ _ h2⟩
 have a2:∀w',Bl W w'→(fun w'=>w'.cell? ⟨X,0,none⟩=some (iT q)∧w'.cell? ⟨X,1,none⟩=some (.slice n f g)∧w'.cell? ⟨X,2,none⟩=some (sL b 3 m)∧w'.cell? ⟨X,3,none⟩=some (.slice s d cs)∧w'.cell? ⟨b,0,none⟩=some (sO U ot J R)∧X<w'.heap.size∧b<w'.heap.size) w':=fun w' k=>aq.o w' (a9.o w' k) (a4.o w' k)
 have k0:Bl W W.drew:=(Below.refl _ W).drew;have aj:(J:Int) > 0:=by omega
 have ar:(0:Int)<(J:Int):=by omega
 have l0:=a4.o W (Below.refl _ W);have lz:=Cz _ _ l0;simp only at lz;clear kW br hT a7 af a1 ai a5 N aL;have x0:=bx.all;clear bx;go_enter Tryz.func56,Tryz.ntmps56
 go_upto_region 1 with fail
 rw [← hX,← hW];clear hX hW;go_upto_region 2 with fail
 clear x0 l0 lz aj ar;refine zL a2 k0 fun T=>?_
 generalize W.drew=Y at k0 T ⊢;refine aP 0 5 T ?_;refine aR 5 fun K hK=>?_
 go_simp;have kc:Bl Y (Y.alloc (.cells #[] 63)):=bZ;have k1:Bl W (Y.alloc (.cells #[] 63)):=k0.trans (kc.mono k0.size);have a3:(Y.alloc (.cells #[] 63)).heap[Y.heap.size]?=some (.cells #[] 63 (0,0)):=by unfold World.alloc;exact DT
 have ad:w.heap.size≤Y.heap.size:=C8 K0.o.size k0.size;generalize Y.heap.size=gb at a3 ad ⊢;generalize Y.alloc (.cells #[] 63)=wb at k1 a3 ⊢;clear kc;refine hK.o _ _ (a2 _ k1) fun T=>?_
 (try go_frame);refine aR 6 fun K hK=>?_
 go_simp;refine (aB.o gb _ (K0.o.trans (k1.mono K0.o.size)) a3 ad).mono ?_;rintro e w2 ⟨y,x,H,t,u,F,D,I,E,rfl,ab,Q,L⟩;have k2:Bl W w2:=k1.trans (ab.mono k1.size);have aN:CG (OK=false→(.agg #[iT q,.slice y x H,.slice t u F,.slice D I E]:Value)=_):=Q;have ao:CG (OK=true→_):=L;clear Q L ab;go_wp2_with fail
 refine hK.o _ _ (a2 _ k2) fun T=>?_
 (try go_frame);refine aP 7 2 T ?_;refine aR 9 fun K hK=>?_
 have y2:=(aG.o _ k2).1;have r0:=y2.all;have O:X+1≠X:=by omega
 have ae:=((((a9.o _ k2).other (b':=X+1) (o:=0) O (iT q)).other (b':=X+1) (o:=1) O (.slice y x H)).other (b':=X+1) (o:=2) O (.slice t u F)).other (b':=X+1) (o:=3) O (.slice D I E);have a8:=(oS w2 (X+1) (iT q) (.slice y x H) (.slice t u F) (.slice D I E) b aJ.o.2 _).trans (a4.o _ k2);go_simp;refine hK.o _ _ (aq.o _ ae a8) fun T=>?_
 (try go_frame);refine aP 10 1 T ?_;refine dN ?_;have ap:CG (az w2 (X+1) (iT 0) nZ nZ nZ):=y2;have aE:CG (Bl w w2):=K0.o.trans (k2.mono K0.o.size);clear ae a8 T r0 y2 O;go_wp2;refine bodyPost_ret (v:=.tuple #[.agg #[iT q,.slice y x H,.slice t u F,.slice D I E],.bool OK]) ?_ rfl (show jO _ _ _ _ _ _ _ _ _ _ _ _ from ⟨y,x,H,t,u,F,D,I,E,rfl,?_,aN.o,fun h=>?_⟩)
 · have e:=(((ap.o.set0 (iT q)).set1 (.slice y x H)).set2 (.slice t u F)).set3 (.slice D I E);simp [results,Tryz.results56,go_sem,e.all]
 · have hx:w.heap.size≤X+1:=by have:=HX.o;omega
   exact qX aE.o hx _ _ _ _
 · obtain ⟨G,gA,dA,f1,m1,d1,f2,m2,d2,rfl,rfl,hS⟩:=ao.o h;exact ⟨G,gA,dA,f1,m1,d1,f2,m2,d2,rfl,rfl,hS.four (aC.o _ k2) ap.o⟩
theorem xZ (lo:Nat) (q:Int) (n:Option Addr) (g f b m:Nat) (r:Option Addr) (d cs:Nat) (M:List ac) (A B C:List an) (S:List Int) (a0 a1:Option Addr) (L c0 J c1:Nat) (y pk:Int) (w:World) (K:b6 lo w n g f (pT b) 3 m r d cs M [A,B,C] S) (u:w.cell? ⟨b,0,none⟩=some (.slice a0 L c0)) (s:w.cell? ⟨b,1,none⟩=some (.slice a1 J c1)) (a5:¬(y=0∧1≤L)∧¬(y=1∧0≤pk∧pk<J)) :
 Calls Tryz.prog 56 #[.agg #[iT q,.slice n g f,sL b 3 m,.slice r d cs],iT y,iT pk] w (jO w.heap.size q (.agg #[iT q,.slice n g f,sL b 3 m,.slice r d cs]) M A B C S (false) w):=by
 obtain ⟨X,x⟩:=aH w.heap.size;obtain ⟨W,t⟩:=aH ((w.alloc (.cells #[iT q,.slice n g f,sL b 3 m,.slice r d cs] 31)).alloc (.cells #[iT 0,nZ,nZ,nZ] 31));have E:Bl w W:=by rw [t];exact bZ.alloc (by simp) _
 have O:az W X (iT q) (.slice n g f) (sL b 3 m) (.slice r d cs):=by rw [t,x];exact (az.new _ _ _ _ _ _).alloc _
 have D:az W (X+1) (iT 0) nZ nZ nZ∧au W (X+1) 31 4:=by
  have:=az.new (w.alloc (.cells #[iT q,.slice n g f,sL b 3 m,.slice r d cs] 31)) 31 (iT 0) nZ nZ nZ;rw [Dc] at this;rw [t,x];have h2:=cy (w.alloc (.cells #[iT q,.slice n g f,sL b 3 m,.slice r d cs] 31)) #[iT 0,nZ,nZ,nZ] 31;rw [Dc] at h2;exact ⟨this,h2⟩
 have I:CG (X=w.heap.size):=x;have H:CG (Bl w W):=E;have a4:CG (∀w',Bl W w'→az w' (X+1) (iT 0) nZ nZ nZ∧yl w' (X+1)):=fun w' k=>⟨D.1.keep k,fJ (D.2.below k) (D.1.keep k)⟩
 have T:CG (∀w',Bl W w'→az w' X (iT q) (.slice n g f) (sL b 3 m) (.slice r d cs)):=fun w' k=>O.keep k
 have Y:CG (∀w',Bl W w'→au w' (X+1) 31 4):=fun w' k=>D.2.below k
 have a2:=bO K;have R:b<w.heap.size:=(K.levels.lies _ rfl (by omega)).1;have a7:CG (b≠X∧b≠X+1):=⟨by omega,by omega⟩;have l0:=cell_later E u;have l1:=cell_later E s;have lz:=Cz _ _ l0;simp only at lz;have x0:=O.all;have r0:=D.1.all;have F:CG (az W (X+1) (iT 0) nZ nZ nZ):=D.1;clear O D E K u s R;by_cases h0:y=0
 · subst h0;have hn:L=0:=by omega
   subst hn;go_enter Tryz.func56,Tryz.ntmps56
   go_upto_region 1 with fail
   rw [← x,← t];clear x t;go_wp2;refine bodyPost_ret (v:=.tuple #[.agg #[iT q,.slice n g f,sL b 3 m,.slice r d cs],.bool false]) ?_ rfl (show jO _ _ _ _ _ _ _ _ _ _ _ _ from ⟨n,g,f,some ⟨b,0,none⟩,3,m,r,d,cs,rfl,?_,fun _=>rfl,fun h=>by cases h⟩)
   · have e:=(((F.o.set0 (iT q)).set1 (.slice n g f)).set2 (sL b 3 m)).set3 (.slice r d cs);simp [results,Tryz.results56,go_sem,e.all]
   · have hx:w.heap.size≤X+1:=by have:=I.o;omega
     exact qX H.o hx _ _ _ _
 · have Z:(y == 0)=false:=by simpa using h0
   by_cases h1:y=1
   · subst h1;by_cases hp:pk<0
     · have Q:¬pk ≥ 0:=by omega
       have N:¬0≤pk:=by omega
       go_enter Tryz.func56,Tryz.ntmps56
       go_upto_region 1 with fail
       rw [← x,← t];clear x t;go_wp2;refine bodyPost_ret (v:=.tuple #[.agg #[iT q,.slice n g f,sL b 3 m,.slice r d cs],.bool false]) ?_ rfl (show jO _ _ _ _ _ _ _ _ _ _ _ _ from ⟨n,g,f,some ⟨b,0,none⟩,3,m,r,d,cs,rfl,?_,fun _=>rfl,fun h=>by cases h⟩)
       · have e:=(((F.o.set0 (iT q)).set1 (.slice n g f)).set2 (sL b 3 m)).set3 (.slice r d cs);simp [results,Tryz.results56,go_sem,e.all]
       · have hx:w.heap.size≤X+1:=by have:=I.o;omega
         exact qX H.o hx _ _ _ _
     · have Q:pk ≥ 0:=by omega
       have N:0≤pk:=by omega
       have a3:¬pk<(J:Int):=by omega
       go_enter Tryz.func56,Tryz.ntmps56
       go_upto_region 1 with fail
       rw [← x,← t];clear x t;go_wp2;refine bodyPost_ret (v:=.tuple #[.agg #[iT q,.slice n g f,sL b 3 m,.slice r d cs],.bool false]) ?_ rfl (show jO _ _ _ _ _ _ _ _ _ _ _ _ from ⟨n,g,f,some ⟨b,0,none⟩,3,m,r,d,cs,rfl,?_,fun _=>rfl,fun h=>by cases h⟩)
       · have e:=(((F.o.set0 (iT q)).set1 (.slice n g f)).set2 (sL b 3 m)).set3 (.slice r d cs);simp [results,Tryz.results56,go_sem,e.all]
       · have hx:w.heap.size≤X+1:=by have:=I.o;omega
         exact qX H.o hx _ _ _ _
   · have U:(y == 1)=false:=by simpa using h1
     go_enter Tryz.func56,Tryz.ntmps56
     go_upto_region 1 with fail
     rw [← x,← t];clear x t;go_wp2;refine bodyPost_ret (v:=.tuple #[.agg #[iT q,.slice n g f,sL b 3 m,.slice r d cs],.bool false]) ?_ rfl (show jO _ _ _ _ _ _ _ _ _ _ _ _ from ⟨n,g,f,some ⟨b,0,none⟩,3,m,r,d,cs,rfl,?_,fun _=>rfl,fun h=>by cases h⟩)
     · have e:=(((F.o.set0 (iT q)).set1 (.slice n g f)).set2 (sL b 3 m)).set3 (.slice r d cs);simp [results,Tryz.results56,go_sem,e.all]
     · have hx:w.heap.size≤X+1:=by have:=I.o;omega
       exact qX H.o hx _ _ _ _
theorem x6 (lo:Nat) (q:Int) (D:Option Addr) (m u b y:Nat) (E:Option Addr) (s cs:Nat) (M:List ac) (A B C:List an) (S:List Int) (d t c1 p:Nat) (w:World) (hT:b6 lo w D m u (pT b) 3 y E s cs M [A,B,C] S) (bc:m≤1048576) (bp:s≤1048576) (aC:∀Z ∈ [A,B,C],Z.length≤100∧∀r ∈ Z,1≤r.1.length∧r.1.length≤10000) (a1:w.cell? ⟨b,1,none⟩=some (sL d t c1)) (hB:ay 0 w (pT d) t c1 B) (hp:p<t) (bL:t≤100) (aA:fT ((B.drop p).take 1) C) (a5:(bj (dz ((B.drop p).take 1) C)).flatten.length≤100000) :
 Calls Tryz.prog 56 #[.agg #[iT q,.slice D m u,sL b 3 y,.slice E s cs],iT 1,iT (p:Int)] w (jO w.heap.size q (.agg #[iT q,.slice D m u,sL b 3 y,.slice E s cs]) M A (B.take p++B.drop (p+1)) (dG ((B.drop p).take 1) C C S 2) S (uG ((B.drop p).take 1) C C S 2) w):=by
 obtain ⟨j0,hj,aU,aY,aQ⟩:=info_parts Tryz.infoRun;obtain ⟨X,hX⟩:=aH w.heap.size;obtain ⟨W,hW⟩:=aH ((w.alloc (.cells #[iT q,.slice D m u,sL b 3 y,.slice E s cs] 31)).alloc (.cells #[iT 0,nZ,nZ,nZ] 31));have kW:Bl w W:=by rw [hW];exact bZ.alloc (by simp) _
 have bx:az W X (iT q) (.slice D m u) (sL b 3 y) (.slice E s cs):=by rw [hW,hX];exact (az.new _ _ _ _ _ _).alloc _
 have br:az W (X+1) (iT 0) nZ nZ nZ∧au W (X+1) 31 4:=by
  have:=az.new (w.alloc (.cells #[iT q,.slice D m u,sL b 3 y,.slice E s cs] 31)) 31 (iT 0) nZ nZ nZ;rw [Dc] at this;rw [hW,hX];have h2:=cy (w.alloc (.cells #[iT q,.slice D m u,sL b 3 y,.slice E s cs] 31)) #[iT 0,nZ,nZ,nZ] 31;rw [Dc] at h2;exact ⟨this,h2⟩
 have HX:CG (X=w.heap.size):=hX;have K0:CG (Bl w W):=kW;have bg:CG (∀w',Bl W w'→az w' (X+1) (iT 0) nZ nZ nZ∧yl w' (X+1)):=fun w' k=>⟨br.1.keep k,fJ (br.2.below k) (br.1.keep k)⟩
 have ag:CG (∀w',Bl W w'→az w' X (iT q) (.slice D m u) (sL b 3 y) (.slice E s cs)):=fun w' k=>bx.keep k
 have be:CG (∀w',Bl W w'→au w' (X+1) 31 4):=fun w' k=>br.2.below k
 have bM:=bO hT;have bk:b<w.heap.size:=(hT.levels.lies _ rfl (by omega)).1;have bo:CG (b≠X∧b≠X+1):=⟨by omega,by omega⟩;obtain ⟨OK,ab⟩:=aH (uG ((B.drop p).take 1) C C S 2);rw [← ab];have hroom:=hB.room;have aN:=hB.length;have aq:ay 0 w (some ⟨d,p*2,none⟩) 1 (c1 - p) ((B.drop p).take 1):=by
  have:=jU hB (i:=p) (j:=p+1) (by omega) (by omega);rw [if_neg (by omega),show p+1 - p=1 by omega] at this;exact this
 have bd:CG (∀g n c w',Bl w w'→ay 0 w' (pT g) n c (B.take p++B.drop (p+1))→Calls Tryz.prog 119 #[.agg #[iT q,.slice D m u,sL b 3 y,.slice E s cs],iT 1,.slice (some ⟨d,p*2,none⟩) 1 (c1 - p),sL g n c] w' (jO w.heap.size q (.agg #[iT q,.slice D m u,sL b 3 y,.slice E s cs]) M A (B.take p++B.drop (p+1)) (dG ((B.drop p).take 1) C C S 2) S OK w')):=fun g n c w' k h=>by
  rw [ab];exact Aw lo w.heap.size q D m u b y E s cs M A B C S d (p*2) 1 (c1 - p) ((B.drop p).take 1) g n c (B.take p++B.drop (p+1)) w' (hT.keep k) bc bp aC (aq.keep k) (by omega) h k.size aA a5
 have a3:CG (∀w',Bl W w'→w'.cell? ⟨b,1,none⟩=some (sL d t c1)):=fun w' k=>cell_later (kW.trans (k.mono kW.size)) a1
 have b5:CG (∀w',az w' X (iT q) (.slice D m u) (sL b 3 y) (.slice E s cs)→w'.cell? ⟨b,1,none⟩=some (sL d t c1)→(fun w'=>w'.cell? ⟨X,0,none⟩=some (iT q)∧w'.cell? ⟨X,1,none⟩=some (.slice D m u)∧w'.cell? ⟨X,2,none⟩=some (sL b 3 y)∧w'.cell? ⟨X,3,none⟩=some (.slice E s cs)∧w'.cell? ⟨b,1,none⟩=some (sL d t c1)∧X<w'.heap.size∧b<w'.heap.size) w'):=fun w' h h2=>⟨h.c0,h.c1,h.c2,h.c3,h2,h.lt,Cz _ _ h2⟩
 have H:∀w',Bl W w'→(fun w'=>w'.cell? ⟨X,0,none⟩=some (iT q)∧w'.cell? ⟨X,1,none⟩=some (.slice D m u)∧w'.cell? ⟨X,2,none⟩=some (sL b 3 y)∧w'.cell? ⟨X,3,none⟩=some (.slice E s cs)∧w'.cell? ⟨b,1,none⟩=some (sL d t c1)∧X<w'.heap.size∧b<w'.heap.size) w':=fun w' k=>b5.o w' (ag.o w' k) (a3.o w' k)
 have k0:Bl W W.drew:=(Below.refl _ W).drew;obtain ⟨ox,al⟩:=aH (if c1=p+1 then 0 else (p+1)*2);obtain ⟨nr,ae⟩:=aH (t - (p+1));obtain ⟨cr,ai⟩:=aH (c1 - (p+1));have aV:ay 0 w (pT d) p c1 (B.take p):=by
  have:=jU hB (i:=0) (j:=p) (by omega) (by omega);have e0:(if c1=0 then 0 else 0*2)=0:=by split <;> rfl
  rw [e0] at this;simpa using this
 have aX:ay 0 w (some ⟨d,ox,none⟩) nr cr (B.drop (p+1)):=by
  have:=jU hB (i:=p+1) (j:=t) (by omega) (by omega);rw [C9 (by rw [Dh,aN];omega)] at this;rw [al,ae,ai];exact this
 obtain ⟨ao,dA,rA⟩:=aV.raw;obtain ⟨ad,dB,rB⟩:=aX.raw;have bm:CG (dW (·<w.heap.size) w (ao++ad) (B.take p++B.drop (p+1))):=dA.denP.app dB.denP;have aj:CG (mQ w (sL d p c1) p ao):=rA;have ah:CG (mQ w (sO d ox nr cr) nr ad):=rB;have bS:(p:Int)<(t:Int):=by omega
 have hp0:(p:Int) ≥ 0:=by omega
 have cd:(0:Int)≤(p:Int):=by omega
 have ca:IntKind.i64.wrap ((p:Int)+1)=(p:Int)+1:=by rw [Dg];unfold wrap64;omega
 have cf:((p:Int)+1).toNat=p+1:=by omega
 have bP:(p:Int)+1≤(c1:Int):=by omega
 have bE:(p:Int)≤(c1:Int):=by omega
 have cb:(0:Int)≤(p:Int)+1:=by omega
 have bH:(p:Int)+1≤(t:Int):=by omega
 have c4:(t:Int)≤(c1:Int):=by omega
 have c9:¬c1=p:=by omega
 have bV:(if c1=p+1 then some (⟨d,0,none⟩:Addr) else some ⟨d,(p+1)*2,none⟩)=some ⟨d,ox,none⟩:=by rw [al];split <;> rfl
 have bJ:p+1 - p=1:=by omega
 have bN:t - (p+1)=nr:=ae.symm;have bX:c1 - (p+1)=cr:=ai.symm;have bu:nr≤100:=by omega
 have bY:p≤100:=by omega
 have l0:=a3.o W (Below.refl _ W);have lz:=Cz _ _ l0;simp only at lz;clear kW br hT aq aA a5 aC ab a1 bk hB aV aX dA dB rA rB al ae ai aN;have x0:=bx.all;clear bx;go_enter Tryz.func56,Tryz.ntmps56
 go_upto_region 1 with fail
 rw [← hX,← hW];clear hX hW;go_upto_region 4 with fail
 clear x0 l0 lz;refine zL H k0 fun f=>?_
 generalize W.drew=wd at k0 f ⊢;refine aP 1 6 f ?_;refine aP 8 7 f ?_;refine aR 0 fun K hK=>?_
 go_simp;have kc:Bl wd (wd.alloc (.cells #[] 63)):=bZ;have k1:Bl W (wd.alloc (.cells #[] 63)):=k0.trans (kc.mono k0.size);have R1:(wd.alloc (.cells #[] 63)).ownsRow W.heap.size 63 2 (sL (wd.heap.size) 0 0) 0 []:=by
  have:=Do (base:=W.heap.size) (e:=63) (size:=2) wd #[] 0 k0.size (by simp) (by simp);simpa using this
 have af:=lm (aj.o.keep (K0.o.trans (k1.mono K0.o.size)));generalize wd.heap.size=gb at R1 ⊢;generalize wd.alloc (.cells #[] 63)=wb at k1 R1 af ⊢;clear kc;refine hK.o _ _ (H _ k1) fun f=>?_
 (try go_frame);refine aR 7 fun K hK=>?_
 refine aw rfl (.tmp 43) (.tmp 49) 61 rfl W.heap.size 63 j0 _ 2 32 Tryz.underlying61 hj aU aY aQ rfl (by decide) _ _ _ rfl R1 ⟨d,0,none⟩ p c1 ao rfl aj.o.1 af.o aj.o.2.1 ?_ ?_ ?_ ?_
 · unfold maxLen;omega
 · omega
 · exact k1.size
 intro v7 w7 a0 b0 aT;obtain ⟨g7,c7,rfl⟩:=aF a0 aT;have a7:wb.grownBy w7 (some gb):=b0;have q2:Bl W w7:=k1.grown a7 k1.size (fun x e=>by have h1:=CZ e;have h2:=(R1.lt gb rfl).1;omega);have aD:=lm (ah.o.keep (K0.o.trans (q2.mono K0.o.size)));have am:0+p=p:=by omega
 rw [am,DA] at a0;refine hK.o _ _ (H _ q2) fun f=>?_
 (try go_frame);refine aR 15 fun K hK=>?_
 refine aw rfl (.tmp 50) (.tmp 57) 61 rfl W.heap.size 63 j0 _ 2 32 Tryz.underlying61 hj aU aY aQ rfl (by decide) _ _ _ ?_ a0 ⟨d,ox,none⟩ nr cr ad rfl ah.o.1 aD.o ah.o.2.1 ?_ ?_ ?_ ?_
 · first | rfl | (rw [am];rfl) | simp
 · unfold maxLen;omega
 · omega
 · exact q2.size
 intro v8 w8 ak ar aJ;obtain ⟨g8,c8,rfl⟩:=aF ak aJ;have a6:w7.grownBy w8 (some g7):=ar;have q3:Bl W w8:=q2.grown a6 q2.size (fun x e=>by have h1:=CZ e;have h2:=(a0.lt g7 rfl).1;omega);refine hK.o _ _ (H _ q3) fun f=>?_
 (try go_frame);refine aP 16 1 f ?_;refine dN ?_;have aG:Bl w w8:=K0.o.trans (q3.mono K0.o.size);obtain ⟨a8,c6,e8,aO⟩:=iL ak (bm.o.low aG).den;cases e8;have bh:CG (ay 0 w8 (pT g8) (p+nr) c8 (B.take p++B.drop (p+1))):=aO;have Q3:CG (Bl W w8):=q3;have aW:=ag.o w8 q3;have x0:=aW.all;have l0:=a3.o w8 q3;have lz:=Cz _ _ l0;simp only at lz;clear f k0 k1 q2 q3 R1 af aD a0 b0 a7 aT ak ar a6 aJ aO aG aW am;go_upto_region 5 with fail
 clear x0 l0 lz;have k5:Bl W w8.drew:=Q3.o.drew;have aZ:CG (ay 0 w8.drew (pT g8) (p+nr) c8 (B.take p++B.drop (p+1))):=bh.o.keep (Below.refl _ w8).drew;refine zL H k5 fun f=>?_
 generalize w8.drew=bQ at k5 aZ f ⊢;refine aP 0 10 f ?_;refine aR 10 fun K hK=>?_
 go_simp;refine (bd.o _ _ _ _ (K0.o.trans (k5.mono K0.o.size)) aZ.o).mono ?_;rintro e w2 ⟨I,O,J,N,F,T,Q,L,R,rfl,aS,a4,Y⟩;have k2:Bl W w2:=k5.trans (aS.mono k5.size);have bl:CG (OK=false→(.agg #[iT q,.slice I O J,.slice N F T,.slice Q L R]:Value)=_):=a4;have b3:CG (OK=true→_):=Y;clear a4 Y aS;go_wp2_with fail
 refine hK.o _ _ (H _ k2) fun f=>?_
 (try go_frame);refine aP 11 2 f ?_;refine aR 13 fun K hK=>?_
 have y2:=(bg.o _ k2).1;have r0:=y2.all;have U:X+1≠X:=by omega
 have ax:=((((ag.o _ k2).other (b':=X+1) (o:=0) U (iT q)).other (b':=X+1) (o:=1) U (.slice I O J)).other (b':=X+1) (o:=2) U (.slice N F T)).other (b':=X+1) (o:=3) U (.slice Q L R);have aL:=(oS w2 (X+1) (iT q) (.slice I O J) (.slice N F T) (.slice Q L R) b bo.o.2 _).trans (a3.o _ k2);go_simp;refine hK.o _ _ (b5.o _ ax aL) fun f=>?_
 (try go_frame);refine aP 14 1 f ?_;refine dN ?_;have b4:CG (az w2 (X+1) (iT 0) nZ nZ nZ):=y2;have bf:CG (Bl w w2):=K0.o.trans (k2.mono K0.o.size);clear ax aL f r0 y2 U;go_wp2;refine bodyPost_ret (v:=.tuple #[.agg #[iT q,.slice I O J,.slice N F T,.slice Q L R],.bool OK]) ?_ rfl (show jO _ _ _ _ _ _ _ _ _ _ _ _ from ⟨I,O,J,N,F,T,Q,L,R,rfl,?_,bl.o,fun h=>?_⟩)
 · have e:=(((b4.o.set0 (iT q)).set1 (.slice I O J)).set2 (.slice N F T)).set3 (.slice Q L R);simp [results,Tryz.results56,go_sem,e.all]
 · have hx:w.heap.size≤X+1:=by have:=HX.o;omega
   exact qX bf.o hx _ _ _ _
 · obtain ⟨G,gA,dA,f1,m1,d1,f2,m2,d2,rfl,rfl,hS⟩:=b3.o h;exact ⟨G,gA,dA,f1,m1,d1,f2,m2,d2,rfl,rfl,hS.four (be.o _ k2) b4.o⟩
theorem kU.mono {b:Nat} {t:Option Addr} {u o G:Nat} {r:Option Addr} {s cs x g:Nat} {f n e d n2 m:Nat} (h:kU lo w t u o G c r s cs x g f n e d n2 m M A B C S) (hl:b≤lo):kU b w t u o G c r s cs x g f n e d n2 m M A B C S :=
 ⟨h.mem.mono hl,eC h.row hl,h.rA.mono hl,h.rB,h.rC,h.sn.lower hl,h.sk⟩
theorem pb {M f b d:_} {m:Bool} {e:Ending} (g:lo≤w.heap.size) (hg:∀w',Bl w w'→cL lo w' v) (htb:m=true→bf q M [f,b,d] S=true∧lN M f b d) (h:jO w.heap.size q v M f b d S m w e w'):mS lo w e w':=by
 obtain ⟨t,I,F,L,K,J,H,s,cs,rfl,hb,h0,h1⟩:=h;refine ⟨_,_,rfl,?_,gK.of hb⟩;cases m with
 | false=>rw [h0 rfl];exact hg _ hb
 | true =>
  obtain ⟨G,x,o,D,r,n,y,n2,E,rfl,rfl,u⟩:=h1 rfl;exact ⟨q,t,I,F,G,J,H,s,cs,x,o,D,r,n,y,n2,E,M,f,b,d,S,rfl,u.mono g,htb rfl⟩
theorem cL.below (h:cL lo w v) (hb:Bl w w'):cL lo w' v:=by
 obtain ⟨q,s,u,n,G,c,o,r,cs,x,f,e,m,d,b,n2,g,M,A,B,C,S,rfl,t,htb⟩:=h;exact ⟨q,s,u,n,G,c,o,r,cs,x,f,e,m,d,b,n2,g,M,A,B,C,S,rfl,t.below hb,htb⟩
theorem mT (htb:bf q M [A,B,C] S=true):∀Z ∈ [A,B,C],Z.length≤100∧∀r ∈ Z,1≤r.1.length∧r.1.length≤10000:=by
 have b:er [A,B,C] q=true:=(aY htb).2.2.2.2.2.2.2.1;unfold er at b;simp only [Db] at b;intro Z d;simp only [Da,Dr,or_false] at d;rcases d with rfl | rfl | rfl
 · exact de b.1 (by omega)
 · exact de b.2.1 (by omega)
 · exact de b.2.2 (by omega)
theorem tG (lo:Nat) (v:Value) (x s:Int) (w:World) (h:cL lo w v) (g:lo≤w.heap.size):Calls Tryz.prog 56 #[v,iT x,iT s] w (mS lo w):=by
 have hg:=fun w' (hb:Bl w w')=>h.below hb
 obtain ⟨q,E,y,F,G,c,H,u,cs,K,J,L,D,I,W,n2,X,M,A,B,C,S,rfl,d,htb⟩:=h;have hsz:=mT htb.1;obtain ⟨⟨U,N,O⟩,o,_,_⟩:=qR htb.1;have hM:=(aY htb.1).2.2.1;have hS:=ld htb.1;have n:y≤1048576:=by have:=d.mem.len;omega
 have t:u≤1048576:=by have:=d.sn.length;omega
 have b:∀Z ∈ [A,B,C],∀r ∈ Z,r.1.length≤150:=fun Z T r hr=>(bE (o Z T r hr)).2.1
 have Q:=d.rB.1.length;by_cases h0:x=0∧1≤A.length
 · obtain ⟨rfl,f⟩:=h0;have m:=A3 htb.1 f;exact (x7 0 q E y F G c H u cs M A B C S K 0 A.length J s w d.treeIn n t hsz d.head.1 (d.rA.runsIn.mono (C3 _)) f (by omega) m (wh (b A (by simp)) (b B (by simp)) (by omega))).mono (fun e w' hc=>pb g hg (fun ho=>⟨pw htb.1 f ho,htb.2.compact0 S⟩) hc)
 · by_cases h1:x=1∧0≤s∧s<(D:Int)
   · obtain ⟨rfl,hp0,R⟩:=h1;obtain ⟨p,rfl⟩:=DL hp0;have hp:p<B.length:=by omega
     have m:=AZ htb.1 hp;have hs:((B.drop p).take 1).Sublist B:=(List.take_sublist _ _).trans (ET _ _);exact (x6 0 q E y F G c H u cs M A B C S L D I p w d.treeIn n t hsz d.head.2.1 d.rB.1 (by omega) (by omega) m (wh (fun r hr=>b B (by simp) r (hs.subset hr)) (b C (by simp)) (by have:=hs.length_le;omega))).mono (fun e w' hc=>pb g hg (fun ho=>⟨pv htb.1 hp ho,htb.2.compact1 p S⟩) hc)
   · exact (xZ 0 q E y F G c H u cs M A B C S (pT K) (pT L) A.length J D I x s w d.treeIn d.head.1 d.head.2.1 ⟨h0,h1⟩).mono (fun e w' hc=>pb g hg (fun ho=>by cases ho) hc)
end Go.Proofs.YtpobkmjicbobdaaGreat
