/- Walks. -/
import Derived.Test.YtpobkmjicbobdaaGreatBW21
namespace Go.Proofs.YtpobkmjicbobdaaGreat
set_option maxRecDepth 100000
set_option maxHeartbeats 40000000
open Go.RowKit
variable {A B C:List af} {M:List ac} {S:List Int} {lo:Nat} {q:Int} {v:Value} {w w':World}
theorem BD (lo:Nat) (q:Int) (g:Option Addr) (d m b s:Nat) (n:Option Addr) (f cs:Nat) (M:List ac) (A B C:List af) (S:List Int) (bt U J R:Nat) (pk:Int) (w:World) (hT:aZ lo w g d m (pT b) 3 s n f cs M [A,B,C] S) (aI:d≤1048576) (hns:f≤1048576) (an:∀Z ∈ [A,B,C],Z.length≤100∧∀r ∈ Z,1≤r.1.length∧r.1.length≤10000) (L:w.cell? ⟨b,0,none⟩=some (sO bt U J R)) (ap:aw 0 w (some ⟨bt,U,none⟩) J R A) (b1:1≤J) (aE:J≤100) (ae:gX A B) (Q:(bG (dW A B)).flatten.length≤100000) :
 Calls Tryz.prog 56 #[.agg #[iT q,.slice g d m,sL b 3 s,.slice n f cs],iT 0,iT pk] w (mJ w.heap.size q (.agg #[iT q,.slice g d m,sL b 3 s,.slice n f cs]) M [] (ef A B C S 1) C S (yr A B C S 1) w):=by
 obtain ⟨X,hX⟩:=aG w.heap.size;obtain ⟨W,hW⟩:=aG ((w.alloc (.cells #[iT q,.slice g d m,sL b 3 s,.slice n f cs] 31)).alloc (.cells #[iT 0,nZ,nZ,nZ] 31));have kW:Bl w W:=by rw [hW];exact bZ.alloc (by simp) _
 have bx:ay W X (iT q) (.slice g d m) (sL b 3 s) (.slice n f cs):=by rw [hW,hX];exact (ay.new _ _ _ _ _ _).alloc _
 have br:ay W (X+1) (iT 0) nZ nZ nZ∧aq W (X+1) 31 4:=by
  have:=ay.new (w.alloc (.cells #[iT q,.slice g d m,sL b 3 s,.slice n f cs] 31)) 31 (iT 0) nZ nZ nZ;rw [GY] at this;rw [hW,hX];have h2:=cX (w.alloc (.cells #[iT q,.slice g d m,sL b 3 s,.slice n f cs] 31)) #[iT 0,nZ,nZ,nZ] 31;rw [GY] at h2;exact ⟨this,h2⟩
 have HX:Eq (X=w.heap.size):=hX;have K0:Eq (Bl w W):=kW;have aO:Eq (∀w',Bl W w'→ay w' (X+1) (iT 0) nZ nZ nZ∧BW w' (X+1)):=fun w' k=>⟨br.1.keep k,gN (br.2.below k) (br.1.keep k)⟩
 have ai:Eq (∀w',Bl W w'→ay w' X (iT q) (.slice g d m) (sL b 3 s) (.slice n f cs)):=fun w' k=>bx.keep k
 have aN:Eq (∀w',Bl W w'→aq w' (X+1) 31 4):=fun w' k=>br.2.below k
 have aU:=az hT;have aD:b<w.heap.size:=(hT.levels.lies _ rfl (by omega)).1;have aL:Eq (b≠X∧b≠X+1):=⟨by omega,by omega⟩;obtain ⟨OK,a2⟩:=aG (yr A B C S 1);rw [← a2];have aH:Eq (∀gb w',Bl w w'→w'.heap[gb]?=some (.cells #[] 63 (0,0))→w.heap.size≤gb→Calls Tryz.prog 119 #[.agg #[iT q,.slice g d m,sL b 3 s,.slice n f cs],iT 0,sO bt U J R,sL gb 0 0] w' (mJ w.heap.size q (.agg #[iT q,.slice g d m,sL b 3 s,.slice n f cs]) M [] (ef A B C S 1) C S OK w')):=fun gb w' k h1 h2=>by
  rw [a2];exact EK lo w.heap.size q g d m b s n f cs M A B C S bt U J R A gb w' (hT.keep k) aI hns an (ap.keep k) aE h1 h2 ae Q
 have a4:Eq (∀w',Bl W w'→w'.cell? ⟨b,0,none⟩=some (sO bt U J R)):=fun w' k=>cell_later (kW.trans (k.mono kW.size)) L
 have a8:Eq (∀w',ay w' X (iT q) (.slice g d m) (sL b 3 s) (.slice n f cs)→w'.cell? ⟨b,0,none⟩=some (sO bt U J R)→(fun w'=>w'.cell? ⟨X,0,none⟩=some (iT q)∧w'.cell? ⟨X,1,none⟩=some (.slice g d m)∧w'.cell? ⟨X,2,none⟩=some (sL b 3 s)∧w'.cell? ⟨X,3,none⟩=some (.slice n f cs)∧w'.cell? ⟨b,0,none⟩=some (sO bt U J R)∧X<w'.heap.size∧b<w'.heap.size) w'):=fun w' h h2=>⟨h.c0,h.c1,h.c2,h.c3,h2,h.lt,GK _ _ h2⟩
 have a3:∀w',Bl W w'→(fun w'=>w'.cell? ⟨X,0,none⟩=some (iT q)∧w'.cell? ⟨X,1,none⟩=some (.slice g d m)∧w'.cell? ⟨X,2,none⟩=some (sL b 3 s)∧w'.cell? ⟨X,3,none⟩=some (.slice n f cs)∧w'.cell? ⟨b,0,none⟩=some (sO bt U J R)∧X<w'.heap.size∧b<w'.heap.size) w':=fun w' k=>a8.o w' (ai.o w' k) (a4.o w' k)
 have k0:Bl W W.drew:=(Below.refl _ W).drew;have ah:(J:Int) > 0:=by omega
 have ag:(0:Int)<(J:Int):=by omega
 have l0:=a4.o W (Below.refl _ W);have lz:=GK _ _ l0;simp only at lz;clear kW br hT ap ae Q an a2 L aD;have x0:=bx.all;clear bx;go_enter Tryz.func56,Tryz.ntmps56
 go_upto_region 1 with fail
 rw [← hX,← hW];clear hX hW;go_upto_region 2 with fail
 clear x0 l0 lz ah ag;refine DS a3 k0 fun aa=>?_
 generalize W.drew=T at k0 aa ⊢;refine aR 0 5 aa ?_;refine aV 5 fun K hK=>?_
 go_simp;have kc:Bl T (T.alloc (.cells #[] 63)):=bZ;have k1:Bl W (T.alloc (.cells #[] 63)):=k0.trans (kc.mono k0.size);have a6:(T.alloc (.cells #[] 63)).heap[T.heap.size]?=some (.cells #[] 63 (0,0)):=by unfold World.alloc;exact In
 have aj:w.heap.size≤T.heap.size:=GU K0.o.size k0.size;generalize T.heap.size=gb at a6 aj ⊢;generalize T.alloc (.cells #[] 63)=wb at k1 a6 ⊢;clear kc;refine hK.o _ _ (a3 _ k1) fun aa=>?_
 (try go_frame);refine aV 6 fun K hK=>?_
 go_simp;refine (aH.o gb _ (K0.o.trans (k1.mono K0.o.size)) a6 aj).mono ?_;rintro e w2 ⟨F,y,x,I,E,H,t,D,u,rfl,au,Y,N⟩;have k2:Bl W w2:=k1.trans (au.mono k1.size);have aJ:Eq (OK=false→(.agg #[iT q,.slice F y x,.slice I E H,.slice t D u]:Value)=_):=Y;have al:Eq (OK=true→_):=N;clear Y N au;go_wp2_with fail
 refine hK.o _ _ (a3 _ k2) fun aa=>?_
 (try go_frame);refine aR 7 2 aa ?_;refine aV 9 fun K hK=>?_
 have y2:=(aO.o _ k2).1;have r0:=y2.all;have O:X+1≠X:=by omega
 have ar:=((((ai.o _ k2).other (b':=X+1) (o:=0) O (iT q)).other (b':=X+1) (o:=1) O (.slice F y x)).other (b':=X+1) (o:=2) O (.slice I E H)).other (b':=X+1) (o:=3) O (.slice t D u);have av:=(ri w2 (X+1) (iT q) (.slice F y x) (.slice I E H) (.slice t D u) b aL.o.2 _).trans (a4.o _ k2);go_simp;refine hK.o _ _ (a8.o _ ar av) fun aa=>?_
 (try go_frame);refine aR 10 1 aa ?_;refine dN ?_;have ak:Eq (ay w2 (X+1) (iT 0) nZ nZ nZ):=y2;have aF:Eq (Bl w w2):=K0.o.trans (k2.mono K0.o.size);clear ar av aa r0 y2 O;go_wp2;refine bodyPost_ret (v:=.tuple #[.agg #[iT q,.slice F y x,.slice I E H,.slice t D u],.bool OK]) ?_ rfl (show mJ _ _ _ _ _ _ _ _ _ _ _ _ from ⟨F,y,x,I,E,H,t,D,u,rfl,?_,aJ.o,fun h=>?_⟩)
 · have e:=(((ak.o.set0 (iT q)).set1 (.slice F y x)).set2 (.slice I E H)).set3 (.slice t D u);simp [results,Tryz.results56,go_sem,e.all]
 · have hx:w.heap.size≤X+1:=by have:=HX.o;omega
   exact jY aF.o hx _ _ _ _
 · obtain ⟨G,gA,dA,f1,m1,d1,f2,m2,d2,rfl,rfl,hS⟩:=al.o h;exact ⟨G,gA,dA,f1,m1,d1,f2,m2,d2,rfl,rfl,hS.four (aN.o _ k2) ak.o⟩
theorem Bz (lo:Nat) (q:Int) (g:Option Addr) (d m b r:Nat) (n:Option Addr) (f cs:Nat) (M:List ac) (A B C:List af) (S:List Int) (a0 a1:Option Addr) (J c0 Q c1:Nat) (D pk:Int) (w:World) (O:aZ lo w g d m (pT b) 3 r n f cs M [A,B,C] S) (t:w.cell? ⟨b,0,none⟩=some (.slice a0 J c0)) (s:w.cell? ⟨b,1,none⟩=some (.slice a1 Q c1)) (Z:¬(D=0∧1≤J)∧¬(D=1∧0≤pk∧pk<Q)) :
 Calls Tryz.prog 56 #[.agg #[iT q,.slice g d m,sL b 3 r,.slice n f cs],iT D,iT pk] w (mJ w.heap.size q (.agg #[iT q,.slice g d m,sL b 3 r,.slice n f cs]) M A B C S (false) w):=by
 obtain ⟨X,u⟩:=aG w.heap.size;obtain ⟨W,x⟩:=aG ((w.alloc (.cells #[iT q,.slice g d m,sL b 3 r,.slice n f cs] 31)).alloc (.cells #[iT 0,nZ,nZ,nZ] 31));have E:Bl w W:=by rw [x];exact bZ.alloc (by simp) _
 have F:ay W X (iT q) (.slice g d m) (sL b 3 r) (.slice n f cs):=by rw [x,u];exact (ay.new _ _ _ _ _ _).alloc _
 have y:ay W (X+1) (iT 0) nZ nZ nZ∧aq W (X+1) 31 4:=by
  have:=ay.new (w.alloc (.cells #[iT q,.slice g d m,sL b 3 r,.slice n f cs] 31)) 31 (iT 0) nZ nZ nZ;rw [GY] at this;rw [x,u];have h2:=cX (w.alloc (.cells #[iT q,.slice g d m,sL b 3 r,.slice n f cs] 31)) #[iT 0,nZ,nZ,nZ] 31;rw [GY] at h2;exact ⟨this,h2⟩
 have R:Eq (X=w.heap.size):=u;have I:Eq (Bl w W):=E;have a7:Eq (∀w',Bl W w'→ay w' (X+1) (iT 0) nZ nZ nZ∧BW w' (X+1)):=fun w' k=>⟨y.1.keep k,gN (y.2.below k) (y.1.keep k)⟩
 have U:Eq (∀w',Bl W w'→ay w' X (iT q) (.slice g d m) (sL b 3 r) (.slice n f cs)):=fun w' k=>F.keep k
 have a4:Eq (∀w',Bl W w'→aq w' (X+1) 31 4):=fun w' k=>y.2.below k
 have T:=az O;have H:b<w.heap.size:=(O.levels.lies _ rfl (by omega)).1;have a3:Eq (b≠X∧b≠X+1):=⟨by omega,by omega⟩;have l0:=cell_later E t;have l1:=cell_later E s;have lz:=GK _ _ l0;simp only at lz;have x0:=F.all;have r0:=y.1.all;have K:Eq (ay W (X+1) (iT 0) nZ nZ nZ):=y.1;clear F y E O t s H;by_cases h0:D=0
 · subst h0;have hn:J=0:=by omega
   subst hn;go_enter Tryz.func56,Tryz.ntmps56
   go_upto_region 1 with fail
   rw [← u,← x];clear u x;go_wp2;refine bodyPost_ret (v:=.tuple #[.agg #[iT q,.slice g d m,sL b 3 r,.slice n f cs],.bool false]) ?_ rfl (show mJ _ _ _ _ _ _ _ _ _ _ _ _ from ⟨g,d,m,some ⟨b,0,none⟩,3,r,n,f,cs,rfl,?_,fun _=>rfl,fun h=>by cases h⟩)
   · have e:=(((K.o.set0 (iT q)).set1 (.slice g d m)).set2 (sL b 3 r)).set3 (.slice n f cs);simp [results,Tryz.results56,go_sem,e.all]
   · have hx:w.heap.size≤X+1:=by have:=R.o;omega
     exact jY I.o hx _ _ _ _
 · have a6:(D == 0)=false:=by simpa using h0
   by_cases h1:D=1
   · subst h1;by_cases hp:pk<0
     focus
      have L:¬pk ≥ 0:=by omega
      have N:¬0≤pk:=by omega
     rotate_left
     focus
      have L:pk ≥ 0:=by omega
      have N:0≤pk:=by omega
      have Y:¬pk<(Q:Int):=by omega
     all_goals
      go_enter Tryz.func56,Tryz.ntmps56
      go_upto_region 1 with fail
      rw [← u,← x]
      clear u x
      go_wp2
      refine bodyPost_ret (v:=.tuple #[.agg #[iT q,.slice g d m,sL b 3 r,.slice n f cs],.bool false]) ?_ rfl (show mJ _ _ _ _ _ _ _ _ _ _ _ _ from ⟨g,d,m,some ⟨b,0,none⟩,3,r,n,f,cs,rfl,?_,fun _=>rfl,fun h=>by cases h⟩)
      · have e:=(((K.o.set0 (iT q)).set1 (.slice g d m)).set2 (sL b 3 r)).set3 (.slice n f cs);simp [results,Tryz.results56,go_sem,e.all]
      · have hx:w.heap.size≤X+1:=by have:=R.o;omega
        exact jY I.o hx _ _ _ _
   · have a2:(D == 1)=false:=by simpa using h1
     go_enter Tryz.func56,Tryz.ntmps56
     go_upto_region 1 with fail
     rw [← u,← x];clear u x;go_wp2;refine bodyPost_ret (v:=.tuple #[.agg #[iT q,.slice g d m,sL b 3 r,.slice n f cs],.bool false]) ?_ rfl (show mJ _ _ _ _ _ _ _ _ _ _ _ _ from ⟨g,d,m,some ⟨b,0,none⟩,3,r,n,f,cs,rfl,?_,fun _=>rfl,fun h=>by cases h⟩)
     · have e:=(((K.o.set0 (iT q)).set1 (.slice g d m)).set2 (sL b 3 r)).set3 (.slice n f cs);simp [results,Tryz.results56,go_sem,e.all]
     · have hx:w.heap.size≤X+1:=by have:=R.o;omega
       exact jY I.o hx _ _ _ _
theorem BC (lo:Nat) (q:Int) (s:Option Addr) (f y b D:Nat) (t:Option Addr) (m cs:Nat) (M:List ac) (A B C:List af) (S:List Int) (e1 u c1 p:Nat) (w:World) (hT:aZ lo w s f y (pT b) 3 D t m cs M [A,B,C] S) (bg:f≤1048576) (hns:m≤1048576) (aH:∀Z ∈ [A,B,C],Z.length≤100∧∀r ∈ Z,1≤r.1.length∧r.1.length≤10000) (T:w.cell? ⟨b,1,none⟩=some (sL e1 u c1)) (hB:aw 0 w (pT e1) u c1 B) (hp:p<u) (bI:u≤100) (aC:gX ((B.drop p).take 1) C) (a6:(bG (dW ((B.drop p).take 1) C)).flatten.length≤100000) :
 Calls Tryz.prog 56 #[.agg #[iT q,.slice s f y,sL b 3 D,.slice t m cs],iT 1,iT (p:Int)] w (mJ w.heap.size q (.agg #[iT q,.slice s f y,sL b 3 D,.slice t m cs]) M A (B.take p++B.drop (p+1)) (ef ((B.drop p).take 1) C C S 2) S (yr ((B.drop p).take 1) C C S 2) w):=by
 obtain ⟨j0,hj,aT,au,aF⟩:=info_parts Tryz.infoRun;obtain ⟨X,hX⟩:=aG w.heap.size;obtain ⟨W,hW⟩:=aG ((w.alloc (.cells #[iT q,.slice s f y,sL b 3 D,.slice t m cs] 31)).alloc (.cells #[iT 0,nZ,nZ,nZ] 31));have kW:Bl w W:=by rw [hW];exact bZ.alloc (by simp) _
 have bx:ay W X (iT q) (.slice s f y) (sL b 3 D) (.slice t m cs):=by rw [hW,hX];exact (ay.new _ _ _ _ _ _).alloc _
 have br:ay W (X+1) (iT 0) nZ nZ nZ∧aq W (X+1) 31 4:=by
  have:=ay.new (w.alloc (.cells #[iT q,.slice s f y,sL b 3 D,.slice t m cs] 31)) 31 (iT 0) nZ nZ nZ;rw [GY] at this;rw [hW,hX];have h2:=cX (w.alloc (.cells #[iT q,.slice s f y,sL b 3 D,.slice t m cs] 31)) #[iT 0,nZ,nZ,nZ] 31;rw [GY] at h2;exact ⟨this,h2⟩
 have HX:Eq (X=w.heap.size):=hX;have K0:Eq (Bl w W):=kW;have bm:Eq (∀w',Bl W w'→ay w' (X+1) (iT 0) nZ nZ nZ∧BW w' (X+1)):=fun w' k=>⟨br.1.keep k,gN (br.2.below k) (br.1.keep k)⟩
 have ai:Eq (∀w',Bl W w'→ay w' X (iT q) (.slice s f y) (sL b 3 D) (.slice t m cs)):=fun w' k=>bx.keep k
 have bi:Eq (∀w',Bl W w'→aq w' (X+1) 31 4):=fun w' k=>br.2.below k
 have bN:=az hT;have bj:b<w.heap.size:=(hT.levels.lies _ rfl (by omega)).1;have bl:Eq (b≠X∧b≠X+1):=⟨by omega,by omega⟩;obtain ⟨OK,ab⟩:=aG (yr ((B.drop p).take 1) C C S 2);rw [← ab];have hroom:=hB.room;have aA:=hB.length;have aY:aw 0 w (some ⟨e1,p*2,none⟩) 1 (c1 - p) ((B.drop p).take 1):=by
  have:=ml hB (i:=p) (j:=p+1) (by omega) (by omega);rw [if_neg (by omega),show p+1 - p=1 by omega] at this;exact this
 have be:Eq (∀g n c w',Bl w w'→aw 0 w' (pT g) n c (B.take p++B.drop (p+1))→Calls Tryz.prog 119 #[.agg #[iT q,.slice s f y,sL b 3 D,.slice t m cs],iT 1,.slice (some ⟨e1,p*2,none⟩) 1 (c1 - p),sL g n c] w' (mJ w.heap.size q (.agg #[iT q,.slice s f y,sL b 3 D,.slice t m cs]) M A (B.take p++B.drop (p+1)) (ef ((B.drop p).take 1) C C S 2) S OK w')):=fun g n c w' k h=>by
  rw [ab];exact EJ lo w.heap.size q s f y b D t m cs M A B C S e1 (p*2) 1 (c1 - p) ((B.drop p).take 1) g n c (B.take p++B.drop (p+1)) w' (hT.keep k) bg hns aH (aY.keep k) (by omega) h k.size aC a6
 have a2:Eq (∀w',Bl W w'→w'.cell? ⟨b,1,none⟩=some (sL e1 u c1)):=fun w' k=>cell_later (kW.trans (k.mono kW.size)) T
 have aJ:Eq (∀w',ay w' X (iT q) (.slice s f y) (sL b 3 D) (.slice t m cs)→w'.cell? ⟨b,1,none⟩=some (sL e1 u c1)→(fun w'=>w'.cell? ⟨X,0,none⟩=some (iT q)∧w'.cell? ⟨X,1,none⟩=some (.slice s f y)∧w'.cell? ⟨X,2,none⟩=some (sL b 3 D)∧w'.cell? ⟨X,3,none⟩=some (.slice t m cs)∧w'.cell? ⟨b,1,none⟩=some (sL e1 u c1)∧X<w'.heap.size∧b<w'.heap.size) w'):=fun w' h h2=>⟨h.c0,h.c1,h.c2,h.c3,h2,h.lt,GK _ _ h2⟩
 have Q:∀w',Bl W w'→(fun w'=>w'.cell? ⟨X,0,none⟩=some (iT q)∧w'.cell? ⟨X,1,none⟩=some (.slice s f y)∧w'.cell? ⟨X,2,none⟩=some (sL b 3 D)∧w'.cell? ⟨X,3,none⟩=some (.slice t m cs)∧w'.cell? ⟨b,1,none⟩=some (sL e1 u c1)∧X<w'.heap.size∧b<w'.heap.size) w':=fun w' k=>aJ.o w' (ai.o w' k) (a2.o w' k)
 have k0:Bl W W.drew:=(Below.refl _ W).drew;obtain ⟨ox,ak⟩:=aG (if c1=p+1 then 0 else (p+1)*2);obtain ⟨nr,ad⟩:=aG (u - (p+1));obtain ⟨cr,an⟩:=aG (c1 - (p+1));have b3:aw 0 w (pT e1) p c1 (B.take p):=by
  have:=ml hB (i:=0) (j:=p) (by omega) (by omega);have e0:(if c1=0 then 0 else 0*2)=0:=by split <;> rfl
  rw [e0] at this;simpa using this
 have b1:aw 0 w (some ⟨e1,ox,none⟩) nr cr (B.drop (p+1)):=by
  have:=ml hB (i:=p+1) (j:=u) (by omega) (by omega);rw [GV (by rw [G7,aA];omega)] at this;rw [ak,ad,an];exact this
 obtain ⟨ah,dA,rA⟩:=b3.raw;obtain ⟨aj,dB,rB⟩:=b1.raw;have bf:Eq (ee (·<w.heap.size) w (ah++aj) (B.take p++B.drop (p+1))):=dA.denP.app dB.denP;have am:Eq (pE w (sL e1 p c1) p ah):=rA;have ae:Eq (pE w (sO e1 ox nr cr) nr aj):=rB;have bM:(p:Int)<(u:Int):=by omega
 have hp0:(p:Int) ≥ 0:=by omega
 have hp1:(0:Int)≤(p:Int):=by omega
 have bW:IntKind.i64.wrap ((p:Int)+1)=(p:Int)+1:=by rw [G4];unfold wrap64;omega
 have bK:((p:Int)+1).toNat=p+1:=by omega
 have bV:(p:Int)+1≤(c1:Int):=by omega
 have bA:(p:Int)≤(c1:Int):=by omega
 have bR:(0:Int)≤(p:Int)+1:=by omega
 have c9:(p:Int)+1≤(u:Int):=by omega
 have bU:(u:Int)≤(c1:Int):=by omega
 have bF:¬c1=p:=by omega
 have bX:(if c1=p+1 then some (⟨e1,0,none⟩:Addr) else some ⟨e1,(p+1)*2,none⟩)=some ⟨e1,ox,none⟩:=by rw [ak];split <;> rfl
 have c4:p+1 - p=1:=by omega
 have bH:u - (p+1)=nr:=ad.symm;have bO:c1 - (p+1)=cr:=an.symm;have bz:nr≤100:=by omega
 have bT:p≤100:=by omega
 have l0:=a2.o W (Below.refl _ W);have lz:=GK _ _ l0;simp only at lz;clear kW br hT aY aC a6 aH ab T bj hB b3 b1 dA dB rA rB ak ad an aA;have x0:=bx.all;clear bx;go_enter Tryz.func56,Tryz.ntmps56
 go_upto_region 1 with fail
 rw [← hX,← hW];clear hX hW;go_upto_region 4 with fail
 clear x0 l0 lz;refine DS Q k0 fun d=>?_
 generalize W.drew=wd at k0 d ⊢;refine aR 1 6 d ?_;refine aR 8 7 d ?_;refine aV 0 fun K hK=>?_
 go_simp;have kc:Bl wd (wd.alloc (.cells #[] 63)):=bZ;have k1:Bl W (wd.alloc (.cells #[] 63)):=k0.trans (kc.mono k0.size);have R1:(wd.alloc (.cells #[] 63)).ownsRow W.heap.size 63 2 (sL (wd.heap.size) 0 0) 0 []:=by
  have:=Hi (base:=W.heap.size) (e:=63) (size:=2) wd #[] 0 k0.size (by simp) (by simp);simpa using this
 have al:=mX (am.o.keep (K0.o.trans (k1.mono K0.o.size)));generalize wd.heap.size=gb at R1 ⊢;generalize wd.alloc (.cells #[] 63)=wb at k1 R1 al ⊢;clear kc;refine hK.o _ _ (Q _ k1) fun d=>?_
 (try go_frame);refine aV 7 fun K hK=>?_
 refine aE rfl (.tmp 43) (.tmp 49) 61 rfl W.heap.size 63 j0 _ 2 32 Tryz.underlying61 hj aT au aF rfl (by decide) _ _ _ rfl R1 ⟨e1,0,none⟩ p c1 ah rfl am.o.1 al.o am.o.2.1 ?_ ?_ ?_ ?_
 · unfold maxLen;omega
 · omega
 · exact k1.size
 intro v7 w7 Y aP b4;obtain ⟨g7,c7,rfl⟩:=aO Y b4;have a5:wb.grownBy w7 (some gb):=aP;have q2:Bl W w7:=k1.grown a5 k1.size (fun x e=>by have h1:=GN e;have h2:=(R1.lt gb rfl).1;omega);have b6:=mX (ae.o.keep (K0.o.trans (q2.mono K0.o.size)));have ag:0+p=p:=by omega
 rw [ag,Ho] at Y;refine hK.o _ _ (Q _ q2) fun d=>?_
 (try go_frame);refine aV 15 fun K hK=>?_
 refine aE rfl (.tmp 50) (.tmp 57) 61 rfl W.heap.size 63 j0 _ 2 32 Tryz.underlying61 hj aT au aF rfl (by decide) _ _ _ ?_ Y ⟨e1,ox,none⟩ nr cr aj rfl ae.o.1 b6.o ae.o.2.1 ?_ ?_ ?_ ?_
 · first | rfl | (rw [ag];rfl) | simp
 · unfold maxLen;omega
 · omega
 · exact q2.size
 intro v8 w8 a9 b7 aN;obtain ⟨g8,c8,rfl⟩:=aO a9 aN;have a3:w7.grownBy w8 (some g7):=b7;have q3:Bl W w8:=q2.grown a3 q2.size (fun x e=>by have h1:=GN e;have h2:=(Y.lt g7 rfl).1;omega);refine hK.o _ _ (Q _ q3) fun d=>?_
 (try go_frame);refine aR 16 1 d ?_;refine dN ?_;have aL:Bl w w8:=K0.o.trans (q3.mono K0.o.size);obtain ⟨a8,bY,e8,ax⟩:=jM a9 (bf.o.low aL).den;cases e8;have bo:Eq (aw 0 w8 (pT g8) (p+nr) c8 (B.take p++B.drop (p+1))):=ax;have Q3:Eq (Bl W w8):=q3;have ar:=ai.o w8 q3;have x0:=ar.all;have l0:=a2.o w8 q3;have lz:=GK _ _ l0;simp only at lz;clear d k0 k1 q2 q3 R1 al b6 Y aP a5 b4 a9 b7 a3 aN ax aL ar ag;go_upto_region 5 with fail
 clear x0 l0 lz;have k5:Bl W w8.drew:=Q3.o.drew;have aD:Eq (aw 0 w8.drew (pT g8) (p+nr) c8 (B.take p++B.drop (p+1))):=bo.o.keep (Below.refl _ w8).drew;refine DS Q k5 fun d=>?_
 generalize w8.drew=bQ at k5 aD d ⊢;refine aR 0 10 d ?_;refine aV 10 fun K hK=>?_
 go_simp;refine (be.o _ _ _ _ (K0.o.trans (k5.mono K0.o.size)) aD.o).mono ?_;rintro e w2 ⟨L,H,F,R,I,N,O,J,E,rfl,aI,a7,U⟩;have k2:Bl W w2:=k5.trans (aI.mono k5.size);have bh:Eq (OK=false→(.agg #[iT q,.slice L H F,.slice R I N,.slice O J E]:Value)=_):=a7;have aW:Eq (OK=true→_):=U;clear a7 U aI;go_wp2_with fail
 refine hK.o _ _ (Q _ k2) fun d=>?_
 (try go_frame);refine aR 11 2 d ?_;refine aV 13 fun K hK=>?_
 have y2:=(bm.o _ k2).1;have r0:=y2.all;have a0:X+1≠X:=by omega
 have b0:=((((ai.o _ k2).other (b':=X+1) (o:=0) a0 (iT q)).other (b':=X+1) (o:=1) a0 (.slice L H F)).other (b':=X+1) (o:=2) a0 (.slice R I N)).other (b':=X+1) (o:=3) a0 (.slice O J E);have b5:=(ri w2 (X+1) (iT q) (.slice L H F) (.slice R I N) (.slice O J E) b bl.o.2 _).trans (a2.o _ k2);go_simp;refine hK.o _ _ (aJ.o _ b0 b5) fun d=>?_
 (try go_frame);refine aR 14 1 d ?_;refine dN ?_;have aU:Eq (ay w2 (X+1) (iT 0) nZ nZ nZ):=y2;have bk:Eq (Bl w w2):=K0.o.trans (k2.mono K0.o.size);clear b0 b5 d r0 y2 a0;go_wp2;refine bodyPost_ret (v:=.tuple #[.agg #[iT q,.slice L H F,.slice R I N,.slice O J E],.bool OK]) ?_ rfl (show mJ _ _ _ _ _ _ _ _ _ _ _ _ from ⟨L,H,F,R,I,N,O,J,E,rfl,?_,bh.o,fun h=>?_⟩)
 · have e:=(((aU.o.set0 (iT q)).set1 (.slice L H F)).set2 (.slice R I N)).set3 (.slice O J E);simp [results,Tryz.results56,go_sem,e.all]
 · have hx:w.heap.size≤X+1:=by have:=HX.o;omega
   exact jY bk.o hx _ _ _ _
 · obtain ⟨G,gA,dA,f1,m1,d1,f2,m2,d2,rfl,rfl,hS⟩:=aW.o h;exact ⟨G,gA,dA,f1,m1,d1,f2,m2,d2,rfl,rfl,hS.four (bi.o _ k2) aU.o⟩
theorem mL.mono {lo':Nat} {b:Option Addr} {f o G c:Nat} {n:Option Addr} {g cs m d:Nat} {e1 r s e2 n2 e:Nat} (h:mL lo w b f o G c n g cs m d e1 r s e2 n2 e M A B C S) (hl:lo'≤lo):mL lo' w b f o G c n g cs m d e1 r s e2 n2 e M A B C S :=
 ⟨h.mem.mono hl,eN h.row hl,h.rA.mono hl,h.rB,h.rC,h.sn.lower hl,h.sk⟩
theorem rX {M f d b:_} {g:Bool} {e:Ending} (m:lo≤w.heap.size) (hg:∀w',Bl w w'→dr lo w' v) (n:g=true→aP q M [f,d,b] S=true∧nY M f d b) (h:mJ w.heap.size q v M f d b S g w e w'):pG lo w e w':=by
 obtain ⟨o,t,y,K,J,x,H,u,cs,rfl,hb,h0,h1⟩:=h;refine ⟨_,_,rfl,?_,iG.of hb⟩;cases g with
 | false=>rw [h0 rfl];exact hg _ hb
 | true =>
  obtain ⟨G,F,r,e1,I,E,e2,n2,s,rfl,rfl,D⟩:=h1 rfl;exact ⟨q,o,t,y,G,x,H,u,cs,F,r,e1,I,E,e2,n2,s,M,f,d,b,S,rfl,D.mono m,n rfl⟩
theorem dr.below (h:dr lo w v) (hb:Bl w w'):dr lo w' v:=by
 obtain ⟨q,d,g,r,G,c,o,m,cs,n,e,e1,s,u,e2,n2,f,M,A,B,C,S,rfl,t,b⟩:=h;exact ⟨q,d,g,r,G,c,o,m,cs,n,e,e1,s,u,e2,n2,f,M,A,B,C,S,rfl,t.below hb,b⟩
theorem pI (e:aP q M [A,B,C] S=true):∀Z ∈ [A,B,C],Z.length≤100∧∀r ∈ Z,1≤r.1.length∧r.1.length≤10000:=by
 have d:=(aL e).2.2.2.2.2.2.2.1;unfold fa at d;simp only [G2] at d;intro Z b;simp only [GZ,Hs,or_false] at b;rcases b with rfl | rfl | rfl
 · exact cT d.1 (by omega)
 · exact cT d.2.1 (by omega)
 · exact cT d.2.2 (by omega)
theorem wT (lo:Nat) (v:Value) (y s:Int) (w:World) (h:dr lo w v) (n:lo≤w.heap.size):Calls Tryz.prog 56 #[v,iT y,iT s] w (pG lo w):=by
 have hg:=fun w' (hb:Bl w w')=>h.below hb
 obtain ⟨q,D,u,E,G,c,F,x,cs,K,I,e1,H,J,e2,n2,T,M,A,B,C,S,rfl,f,b⟩:=h;have hsz:=pI b.1;obtain ⟨⟨N,R,L⟩,o,_,_⟩:=uh b.1;have hM:=(aL b.1).2.2.1;have hS:=mQ b.1;have t:u≤1048576:=by have:=f.mem.len;omega
 have hns:x≤1048576:=by have:=f.sn.length;omega
 have d:∀Z ∈ [A,B,C],∀r ∈ Z,r.1.length≤150:=fun Z O r hr=>(bE (o Z O r hr)).2.1
 have Q:=f.rB.1.length;by_cases h0:y=0∧1≤A.length
 · obtain ⟨rfl,g⟩:=h0;have m:=Fm b.1 g;exact (BD 0 q D u E G c F x cs M A B C S K 0 A.length I s w f.treeIn t hns hsz f.head.1 (f.rA.runsIn.mono (GQ _)) g (by omega) m (z8 (d A (by simp)) (d B (by simp)) (by omega))).mono (fun e w' hc=>rX n hg (fun ho=>⟨sF b.1 g ho,b.2.compact0 S⟩) hc)
 · by_cases h1:y=1∧0≤s∧s<(H:Int)
   · obtain ⟨rfl,hp0,hp1⟩:=h1;obtain ⟨p,rfl⟩:=Il hp0;have hp:p<B.length:=by omega
     have m:=Fl b.1 hp;have hs:((B.drop p).take 1).Sublist B:=(List.take_sublist _ _).trans (Jo _ _);exact (BC 0 q D u E G c F x cs M A B C S e1 H J p w f.treeIn t hns hsz f.head.2.1 f.rB.1 (by omega) (by omega) m (z8 (fun r hr=>d B (by simp) r (hs.subset hr)) (d C (by simp)) (by have:=hs.length_le;omega))).mono (fun e w' hc=>rX n hg (fun ho=>⟨sE b.1 hp ho,b.2.compact1 p S⟩) hc)
   · exact (Bz 0 q D u E G c F x cs M A B C S (pT K) (pT e1) A.length I H J y s w f.treeIn f.head.1 f.head.2.1 ⟨h0,h1⟩).mono (fun e w' hc=>rX n hg (fun ho=>by cases ho) hc)
end Go.Proofs.YtpobkmjicbobdaaGreat
