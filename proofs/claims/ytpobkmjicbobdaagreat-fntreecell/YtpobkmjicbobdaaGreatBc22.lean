/- Walks. -/
import Derived.Test.YtpobkmjicbobdaaGreatBc21
namespace Go.Proofs.YtpobkmjicbobdaaGreat
set_option maxRecDepth 100000
set_option maxHeartbeats 40000000
open Go.RowKit
variable {A B C:List aj} {M:List ae} {S:List Int} {lo:Nat} {q:Int} {v:Value} {w w':World}
theorem Ax (lo:Nat) (q:Int) (n:Option Addr) (d m b g:Nat) (s:Option Addr) (f cs:Nat) (M:List ae) (A B C:List aj) (S:List Int) (T R J Q:Nat) (pk:Int) (w:World) (hT:cj lo w n d m (pT b) 3 g s f cs M [A,B,C] S) (aA:d≤1048576) (aO:f≤1048576) (ab:∀Z ∈ [A,B,C],Z.length≤100∧∀r ∈ Z,1≤r.1.length∧r.1.length≤10000) (N:w.cell? ⟨b,0,none⟩=some (sO T R J Q)) (af:az 0 w (some ⟨T,R,none⟩) J Q A) (aX:1≤J) (aL:J≤100) (a9:gJ A B) (U:(bG (dQ A B)).flatten.length≤100000) :
 Calls Tryz.prog 56 #[.agg #[iT q,.slice n d m,sL b 3 g,.slice s f cs],iT 0,iT pk] w (lj w.heap.size q (.agg #[iT q,.slice n d m,sL b 3 g,.slice s f cs]) M [] (dX A B C S 1) C S (wT A B C S 1) w):=by
 obtain ⟨X,hX⟩:=aG w.heap.size;obtain ⟨W,hW⟩:=aG ((w.alloc (.cells #[iT q,.slice n d m,sL b 3 g,.slice s f cs] 31)).alloc (.cells #[iT 0,nZ,nZ,nZ] 31));have kW:Bl w W:=by rw [hW];exact bZ.alloc (by simp) _
 have bx:aE W X (iT q) (.slice n d m) (sL b 3 g) (.slice s f cs):=by rw [hW,hX];exact (aE.new _ _ _ _ _ _).alloc _
 have br:aE W (X+1) (iT 0) nZ nZ nZ∧ay W (X+1) 31 4:=by
  have:=aE.new (w.alloc (.cells #[iT q,.slice n d m,sL b 3 g,.slice s f cs] 31)) 31 (iT 0) nZ nZ nZ;rw [FP] at this;rw [hW,hX];have h2:=cP (w.alloc (.cells #[iT q,.slice n d m,sL b 3 g,.slice s f cs] 31)) #[iT 0,nZ,nZ,nZ] 31;rw [FP] at h2;exact ⟨this,h2⟩
 have HX:Eq (X=w.heap.size):=hX;have K0:Eq (Bl w W):=kW;have ax:Eq (∀w',Bl W w'→aE w' (X+1) (iT 0) nZ nZ nZ∧AN w' (X+1)):=fun w' k=>⟨br.1.keep k,gq (br.2.below k) (br.1.keep k)⟩
 have an:Eq (∀w',Bl W w'→aE w' X (iT q) (.slice n d m) (sL b 3 g) (.slice s f cs)):=fun w' k=>bx.keep k
 have aN:Eq (∀w',Bl W w'→ay w' (X+1) 31 4):=fun w' k=>br.2.below k
 have aW:=bT hT;have aB:b<w.heap.size:=(hT.levels.lies _ rfl (by omega)).1;have aF:Eq (b≠X∧b≠X+1):=⟨by omega,by omega⟩;obtain ⟨OK,a3⟩:=aG (wT A B C S 1);rw [← a3];have aD:Eq (∀gb w',Bl w w'→w'.heap[gb]?=some (.cells #[] 63 (0,0))→w.heap.size≤gb→Calls Tryz.prog 119 #[.agg #[iT q,.slice n d m,sL b 3 g,.slice s f cs],iT 0,sO T R J Q,sL gb 0 0] w' (lj w.heap.size q (.agg #[iT q,.slice n d m,sL b 3 g,.slice s f cs]) M [] (dX A B C S 1) C S OK w')):=fun gb w' k h1 h2=>by
  rw [a3];exact Du lo w.heap.size q n d m b g s f cs M A B C S T R J Q A gb w' (hT.keep k) aA aO ab (af.keep k) aL h1 h2 a9 U
 have a2:Eq (∀w',Bl W w'→w'.cell? ⟨b,0,none⟩=some (sO T R J Q)):=fun w' k=>cell_later (kW.trans (k.mono kW.size)) N
 have al:Eq (∀w',aE w' X (iT q) (.slice n d m) (sL b 3 g) (.slice s f cs)→w'.cell? ⟨b,0,none⟩=some (sO T R J Q)→(fun w'=>w'.cell? ⟨X,0,none⟩=some (iT q)∧w'.cell? ⟨X,1,none⟩=some (.slice n d m)∧w'.cell? ⟨X,2,none⟩=some (sL b 3 g)∧w'.cell? ⟨X,3,none⟩=some (.slice s f cs)∧w'.cell? ⟨b,0,none⟩=some (sO T R J Q)∧X<w'.heap.size∧b<w'.heap.size) w'):=fun w' h h2=>⟨h.c0,h.c1,h.c2,h.c3,h2,h.lt,Fu _ _ h2⟩
 have a4:∀w',Bl W w'→(fun w'=>w'.cell? ⟨X,0,none⟩=some (iT q)∧w'.cell? ⟨X,1,none⟩=some (.slice n d m)∧w'.cell? ⟨X,2,none⟩=some (sL b 3 g)∧w'.cell? ⟨X,3,none⟩=some (.slice s f cs)∧w'.cell? ⟨b,0,none⟩=some (sO T R J Q)∧X<w'.heap.size∧b<w'.heap.size) w':=fun w' k=>al.o w' (an.o w' k) (a2.o w' k)
 have k0:Bl W W.drew:=(Below.refl _ W).drew;have ah:(J:Int) > 0:=by omega
 have ar:(0:Int)<(J:Int):=by omega
 have l0:=a2.o W (Below.refl _ W);have lz:=Fu _ _ l0;simp only at lz;clear kW br hT af a9 U ab a3 N aB;have x0:=bx.all;clear bx;go_enter Tryz.func56,Tryz.ntmps56
 go_upto_region 1 with fail
 rw [← hX,← hW];clear hX hW;go_upto_region 2 with fail
 clear x0 l0 lz ah ar;refine Co a4 k0 fun ac=>?_
 generalize W.drew=wd at k0 ac ⊢;refine aP 0 5 ac ?_;refine aQ 5 fun K hK=>?_
 go_simp;have kc:Bl wd (wd.alloc (.cells #[] 63)):=bZ;have k1:Bl W (wd.alloc (.cells #[] 63)):=k0.trans (kc.mono k0.size);have a5:(wd.alloc (.cells #[] 63)).heap[wd.heap.size]?=some (.cells #[] 63 (0,0)):=by unfold World.alloc;exact GE
 have ao:w.heap.size≤wd.heap.size:=FK K0.o.size k0.size;generalize wd.heap.size=gb at a5 ao ⊢;generalize wd.alloc (.cells #[] 63)=wb at k1 a5 ⊢;clear kc;refine hK.o _ _ (a4 _ k1) fun ac=>?_
 (try go_frame);refine aQ 6 fun K hK=>?_
 go_simp;refine (aD.o gb _ (K0.o.trans (k1.mono K0.o.size)) a5 ao).mono ?_;rintro e w2 ⟨t,D,x,E,I,F,u,y,H,rfl,ak,Y,L⟩;have k2:Bl W w2:=k1.trans (ak.mono k1.size);have aI:Eq (OK=false→(.agg #[iT q,.slice t D x,.slice E I F,.slice u y H]:Value)=_):=Y;have ai:Eq (OK=true→_):=L;clear Y L ak;go_wp2_with fail
 refine hK.o _ _ (a4 _ k2) fun ac=>?_
 (try go_frame);refine aP 7 2 ac ?_;refine aQ 9 fun K hK=>?_
 have y2:=(ax.o _ k2).1;have r0:=y2.all;have O:X+1≠X:=by omega
 have a7:=((((an.o _ k2).other (b':=X+1) (o:=0) O (iT q)).other (b':=X+1) (o:=1) O (.slice t D x)).other (b':=X+1) (o:=2) O (.slice E I F)).other (b':=X+1) (o:=3) O (.slice u y H);have ad:=(qj w2 (X+1) (iT q) (.slice t D x) (.slice E I F) (.slice u y H) b aF.o.2 _).trans (a2.o _ k2);go_simp;refine hK.o _ _ (al.o _ a7 ad) fun ac=>?_
 (try go_frame);refine aP 10 1 ac ?_;refine dN ?_;have aq:Eq (aE w2 (X+1) (iT 0) nZ nZ nZ):=y2;have aH:Eq (Bl w w2):=K0.o.trans (k2.mono K0.o.size);clear a7 ad ac r0 y2 O;go_wp2;refine bodyPost_ret (v:=.tuple #[.agg #[iT q,.slice t D x,.slice E I F,.slice u y H],.bool OK]) ?_ rfl (show lj _ _ _ _ _ _ _ _ _ _ _ _ from ⟨t,D,x,E,I,F,u,y,H,rfl,?_,aI.o,fun h=>?_⟩)
 · have e:=(((aq.o.set0 (iT q)).set1 (.slice t D x)).set2 (.slice E I F)).set3 (.slice u y H);simp [results,Tryz.results56,go_sem,e.all]
 · have hx:w.heap.size≤X+1:=by have:=HX.o;omega
   exact tk aH.o hx _ _ _ _
 · obtain ⟨G,gA,dA,f1,m1,d1,f2,m2,d2,rfl,rfl,hS⟩:=ai.o h;exact ⟨G,gA,dA,f1,m1,d1,f2,m2,d2,rfl,rfl,hS.four (aN.o _ k2) aq.o⟩
theorem Av (lo:Nat) (q:Int) (m:Option Addr) (g f b d:Nat) (n:Option Addr) (r cs:Nat) (M:List ae) (A B C:List aj) (S:List Int) (a0 a1:Option Addr) (K c0 N c1:Nat) (D pk:Int) (w:World) (Q:cj lo w m g f (pT b) 3 d n r cs M [A,B,C] S) (x:w.cell? ⟨b,0,none⟩=some (.slice a0 K c0)) (s:w.cell? ⟨b,1,none⟩=some (.slice a1 N c1)) (U:¬(D=0∧1≤K)∧¬(D=1∧0≤pk∧pk<N)) :
 Calls Tryz.prog 56 #[.agg #[iT q,.slice m g f,sL b 3 d,.slice n r cs],iT D,iT pk] w (lj w.heap.size q (.agg #[iT q,.slice m g f,sL b 3 d,.slice n r cs]) M A B C S (false) w):=by
 obtain ⟨X,u⟩:=aG w.heap.size;obtain ⟨W,t⟩:=aG ((w.alloc (.cells #[iT q,.slice m g f,sL b 3 d,.slice n r cs] 31)).alloc (.cells #[iT 0,nZ,nZ,nZ] 31));have H:Bl w W:=by rw [t];exact bZ.alloc (by simp) _
 have R:aE W X (iT q) (.slice m g f) (sL b 3 d) (.slice n r cs):=by rw [t,u];exact (aE.new _ _ _ _ _ _).alloc _
 have y:aE W (X+1) (iT 0) nZ nZ nZ∧ay W (X+1) 31 4:=by
  have:=aE.new (w.alloc (.cells #[iT q,.slice m g f,sL b 3 d,.slice n r cs] 31)) 31 (iT 0) nZ nZ nZ;rw [FP] at this;rw [t,u];have h2:=cP (w.alloc (.cells #[iT q,.slice m g f,sL b 3 d,.slice n r cs] 31)) #[iT 0,nZ,nZ,nZ] 31;rw [FP] at h2;exact ⟨this,h2⟩
 have E:Eq (X=w.heap.size):=u;have I:Eq (Bl w W):=H;have T:Eq (∀w',Bl W w'→aE w' (X+1) (iT 0) nZ nZ nZ∧AN w' (X+1)):=fun w' k=>⟨y.1.keep k,gq (y.2.below k) (y.1.keep k)⟩
 have a5:Eq (∀w',Bl W w'→aE w' X (iT q) (.slice m g f) (sL b 3 d) (.slice n r cs)):=fun w' k=>R.keep k
 have a4:Eq (∀w',Bl W w'→ay w' (X+1) 31 4):=fun w' k=>y.2.below k
 have a2:=bT Q;have J:b<w.heap.size:=(Q.levels.lies _ rfl (by omega)).1;have Y:Eq (b≠X∧b≠X+1):=⟨by omega,by omega⟩;have l0:=cell_later H x;have l1:=cell_later H s;have Z:=Fu _ _ l0;simp only at Z;have x0:=R.all;have r0:=y.1.all;have F:Eq (aE W (X+1) (iT 0) nZ nZ nZ):=y.1;clear R y H Q x s J;by_cases h0:D=0
 · subst h0;have hn:K=0:=by omega
   subst hn;go_enter Tryz.func56,Tryz.ntmps56
   go_upto_region 1 with fail
   rw [← u,← t];clear u t;go_wp2;refine bodyPost_ret (v:=.tuple #[.agg #[iT q,.slice m g f,sL b 3 d,.slice n r cs],.bool false]) ?_ rfl (show lj _ _ _ _ _ _ _ _ _ _ _ _ from ⟨m,g,f,some ⟨b,0,none⟩,3,d,n,r,cs,rfl,?_,fun _=>rfl,fun h=>by cases h⟩)
   · have e:=(((F.o.set0 (iT q)).set1 (.slice m g f)).set2 (sL b 3 d)).set3 (.slice n r cs);simp [results,Tryz.results56,go_sem,e.all]
   · have hx:w.heap.size≤X+1:=by have:=E.o;omega
     exact tk I.o hx _ _ _ _
 · have a6:(D == 0)=false:=by simpa using h0
   by_cases h1:D=1
   · subst h1;by_cases hp:pk<0
     · have L:¬pk ≥ 0:=by omega
       have O:¬0≤pk:=by omega
       go_enter Tryz.func56,Tryz.ntmps56
       go_upto_region 1 with fail
       rw [← u,← t];clear u t;go_wp2;refine bodyPost_ret (v:=.tuple #[.agg #[iT q,.slice m g f,sL b 3 d,.slice n r cs],.bool false]) ?_ rfl (show lj _ _ _ _ _ _ _ _ _ _ _ _ from ⟨m,g,f,some ⟨b,0,none⟩,3,d,n,r,cs,rfl,?_,fun _=>rfl,fun h=>by cases h⟩)
       · have e:=(((F.o.set0 (iT q)).set1 (.slice m g f)).set2 (sL b 3 d)).set3 (.slice n r cs);simp [results,Tryz.results56,go_sem,e.all]
       · have hx:w.heap.size≤X+1:=by have:=E.o;omega
         exact tk I.o hx _ _ _ _
     · have L:pk ≥ 0:=by omega
       have O:0≤pk:=by omega
       have a7:¬pk<(N:Int):=by omega
       go_enter Tryz.func56,Tryz.ntmps56
       go_upto_region 1 with fail
       rw [← u,← t];clear u t;go_wp2;refine bodyPost_ret (v:=.tuple #[.agg #[iT q,.slice m g f,sL b 3 d,.slice n r cs],.bool false]) ?_ rfl (show lj _ _ _ _ _ _ _ _ _ _ _ _ from ⟨m,g,f,some ⟨b,0,none⟩,3,d,n,r,cs,rfl,?_,fun _=>rfl,fun h=>by cases h⟩)
       · have e:=(((F.o.set0 (iT q)).set1 (.slice m g f)).set2 (sL b 3 d)).set3 (.slice n r cs);simp [results,Tryz.results56,go_sem,e.all]
       · have hx:w.heap.size≤X+1:=by have:=E.o;omega
         exact tk I.o hx _ _ _ _
   · have a3:(D == 1)=false:=by simpa using h1
     go_enter Tryz.func56,Tryz.ntmps56
     go_upto_region 1 with fail
     rw [← u,← t];clear u t;go_wp2;refine bodyPost_ret (v:=.tuple #[.agg #[iT q,.slice m g f,sL b 3 d,.slice n r cs],.bool false]) ?_ rfl (show lj _ _ _ _ _ _ _ _ _ _ _ _ from ⟨m,g,f,some ⟨b,0,none⟩,3,d,n,r,cs,rfl,?_,fun _=>rfl,fun h=>by cases h⟩)
     · have e:=(((F.o.set0 (iT q)).set1 (.slice m g f)).set2 (sL b 3 d)).set3 (.slice n r cs);simp [results,Tryz.results56,go_sem,e.all]
     · have hx:w.heap.size≤X+1:=by have:=E.o;omega
       exact tk I.o hx _ _ _ _
theorem Aw (lo:Nat) (q:Int) (y:Option Addr) (f t b s:Nat) (D:Option Addr) (m cs:Nat) (M:List ae) (A B C:List aj) (S:List Int) (e1 u c1 p:Nat) (w:World) (hT:cj lo w y f t (pT b) 3 s D m cs M [A,B,C] S) (bb:f≤1048576) (bm:m≤1048576) (av:∀Z ∈ [A,B,C],Z.length≤100∧∀r ∈ Z,1≤r.1.length∧r.1.length≤10000) (T:w.cell? ⟨b,1,none⟩=some (sL e1 u c1)) (hB:az 0 w (pT e1) u c1 B) (hp:p<u) (bX:u≤100) (au:gJ ((B.drop p).take 1) C) (a3:(bG (dQ ((B.drop p).take 1) C)).flatten.length≤100000) :
 Calls Tryz.prog 56 #[.agg #[iT q,.slice y f t,sL b 3 s,.slice D m cs],iT 1,iT (p:Int)] w (lj w.heap.size q (.agg #[iT q,.slice y f t,sL b 3 s,.slice D m cs]) M A (B.take p++B.drop (p+1)) (dX ((B.drop p).take 1) C C S 2) S (wT ((B.drop p).take 1) C C S 2) w):=by
 obtain ⟨j0,hj,ap,aU,aA⟩:=info_parts Tryz.infoRun;obtain ⟨X,hX⟩:=aG w.heap.size;obtain ⟨W,hW⟩:=aG ((w.alloc (.cells #[iT q,.slice y f t,sL b 3 s,.slice D m cs] 31)).alloc (.cells #[iT 0,nZ,nZ,nZ] 31));have kW:Bl w W:=by rw [hW];exact bZ.alloc (by simp) _
 have bx:aE W X (iT q) (.slice y f t) (sL b 3 s) (.slice D m cs):=by rw [hW,hX];exact (aE.new _ _ _ _ _ _).alloc _
 have br:aE W (X+1) (iT 0) nZ nZ nZ∧ay W (X+1) 31 4:=by
  have:=aE.new (w.alloc (.cells #[iT q,.slice y f t,sL b 3 s,.slice D m cs] 31)) 31 (iT 0) nZ nZ nZ;rw [FP] at this;rw [hW,hX];have h2:=cP (w.alloc (.cells #[iT q,.slice y f t,sL b 3 s,.slice D m cs] 31)) #[iT 0,nZ,nZ,nZ] 31;rw [FP] at h2;exact ⟨this,h2⟩
 have HX:Eq (X=w.heap.size):=hX;have K0:Eq (Bl w W):=kW;have ba:Eq (∀w',Bl W w'→aE w' (X+1) (iT 0) nZ nZ nZ∧AN w' (X+1)):=fun w' k=>⟨br.1.keep k,gq (br.2.below k) (br.1.keep k)⟩
 have ag:Eq (∀w',Bl W w'→aE w' X (iT q) (.slice y f t) (sL b 3 s) (.slice D m cs)):=fun w' k=>bx.keep k
 have bl:Eq (∀w',Bl W w'→ay w' (X+1) 31 4):=fun w' k=>br.2.below k
 have c6:=bT hT;have bc:b<w.heap.size:=(hT.levels.lies _ rfl (by omega)).1;have bj:Eq (b≠X∧b≠X+1):=⟨by omega,by omega⟩;obtain ⟨OK,aa⟩:=aG (wT ((B.drop p).take 1) C C S 2);rw [← aa];have hroom:=hB.room;have aq:=hB.length;have aW:az 0 w (some ⟨e1,p*2,none⟩) 1 (c1 - p) ((B.drop p).take 1):=by
  have:=ls hB (i:=p) (j:=p+1) (by omega) (by omega);rw [if_neg (by omega),show p+1 - p=1 by omega] at this;exact this
 have bi:Eq (∀g n c w',Bl w w'→az 0 w' (pT g) n c (B.take p++B.drop (p+1))→Calls Tryz.prog 119 #[.agg #[iT q,.slice y f t,sL b 3 s,.slice D m cs],iT 1,.slice (some ⟨e1,p*2,none⟩) 1 (c1 - p),sL g n c] w' (lj w.heap.size q (.agg #[iT q,.slice y f t,sL b 3 s,.slice D m cs]) M A (B.take p++B.drop (p+1)) (dX ((B.drop p).take 1) C C S 2) S OK w')):=fun g n c w' k h=>by
  rw [aa];exact Dt lo w.heap.size q y f t b s D m cs M A B C S e1 (p*2) 1 (c1 - p) ((B.drop p).take 1) g n c (B.take p++B.drop (p+1)) w' (hT.keep k) bb bm av (aW.keep k) (by omega) h k.size au a3
 have a2:Eq (∀w',Bl W w'→w'.cell? ⟨b,1,none⟩=some (sL e1 u c1)):=fun w' k=>cell_later (kW.trans (k.mono kW.size)) T
 have b3:Eq (∀w',aE w' X (iT q) (.slice y f t) (sL b 3 s) (.slice D m cs)→w'.cell? ⟨b,1,none⟩=some (sL e1 u c1)→(fun w'=>w'.cell? ⟨X,0,none⟩=some (iT q)∧w'.cell? ⟨X,1,none⟩=some (.slice y f t)∧w'.cell? ⟨X,2,none⟩=some (sL b 3 s)∧w'.cell? ⟨X,3,none⟩=some (.slice D m cs)∧w'.cell? ⟨b,1,none⟩=some (sL e1 u c1)∧X<w'.heap.size∧b<w'.heap.size) w'):=fun w' h h2=>⟨h.c0,h.c1,h.c2,h.c3,h2,h.lt,Fu _ _ h2⟩
 have F:∀w',Bl W w'→(fun w'=>w'.cell? ⟨X,0,none⟩=some (iT q)∧w'.cell? ⟨X,1,none⟩=some (.slice y f t)∧w'.cell? ⟨X,2,none⟩=some (sL b 3 s)∧w'.cell? ⟨X,3,none⟩=some (.slice D m cs)∧w'.cell? ⟨b,1,none⟩=some (sL e1 u c1)∧X<w'.heap.size∧b<w'.heap.size) w':=fun w' k=>b3.o w' (ag.o w' k) (a2.o w' k)
 have k0:Bl W W.drew:=(Below.refl _ W).drew;obtain ⟨ox,ab⟩:=aG (if c1=p+1 then 0 else (p+1)*2);obtain ⟨nr,ad⟩:=aG (u - (p+1));obtain ⟨cr,ah⟩:=aG (c1 - (p+1));have ax:az 0 w (pT e1) p c1 (B.take p):=by
  have:=ls hB (i:=0) (j:=p) (by omega) (by omega);have e0:(if c1=0 then 0 else 0*2)=0:=by split <;> rfl
  rw [e0] at this;simpa using this
 have aF:az 0 w (some ⟨e1,ox,none⟩) nr cr (B.drop (p+1)):=by
  have:=ls hB (i:=p+1) (j:=u) (by omega) (by omega);rw [FH (by rw [FN,aq];omega)] at this;rw [ab,ad,ah];exact this
 obtain ⟨a9,dA,rA⟩:=ax.raw;obtain ⟨af,dB,rB⟩:=aF.raw;have bd:Eq (eC (·<w.heap.size) w (a9++af) (B.take p++B.drop (p+1))):=dA.denP.app dB.denP;have an:Eq (oO w (sL e1 p c1) p a9):=rA;have am:Eq (oO w (sO e1 ox nr cr) nr af):=rB;have bS:(p:Int)<(u:Int):=by omega
 have hp0:(p:Int) ≥ 0:=by omega
 have hp1:(0:Int)≤(p:Int):=by omega
 have bF:IntKind.i64.wrap ((p:Int)+1)=(p:Int)+1:=by rw [FQ];unfold wrap64;omega
 have bU:((p:Int)+1).toNat=p+1:=by omega
 have bL:(p:Int)+1≤(c1:Int):=by omega
 have bz:(p:Int)≤(c1:Int):=by omega
 have bW:(0:Int)≤(p:Int)+1:=by omega
 have ca:(p:Int)+1≤(u:Int):=by omega
 have c9:(u:Int)≤(c1:Int):=by omega
 have bY:¬c1=p:=by omega
 have bD:(if c1=p+1 then some (⟨e1,0,none⟩:Addr) else some ⟨e1,(p+1)*2,none⟩)=some ⟨e1,ox,none⟩:=by rw [ab];split <;> rfl
 have bE:p+1 - p=1:=by omega
 have bV:u - (p+1)=nr:=ad.symm;have bP:c1 - (p+1)=cr:=ah.symm;have bq:nr≤100:=by omega
 have bQ:p≤100:=by omega
 have l0:=a2.o W (Below.refl _ W);have lz:=Fu _ _ l0;simp only at lz;clear kW br hT aW au a3 av aa T bc hB ax aF dA dB rA rB ab ad ah aq;have x0:=bx.all;clear bx;go_enter Tryz.func56,Tryz.ntmps56
 go_upto_region 1 with fail
 rw [← hX,← hW];clear hX hW;go_upto_region 4 with fail
 clear x0 l0 lz;refine Co F k0 fun d=>?_
 generalize W.drew=wd at k0 d ⊢;refine aP 1 6 d ?_;refine aP 8 7 d ?_;refine aQ 0 fun K hK=>?_
 go_simp;have kc:Bl wd (wd.alloc (.cells #[] 63)):=bZ;have k1:Bl W (wd.alloc (.cells #[] 63)):=k0.trans (kc.mono k0.size);have R1:(wd.alloc (.cells #[] 63)).ownsRow W.heap.size 63 2 (sL (wd.heap.size) 0 0) 0 []:=by
  have:=F6 (base:=W.heap.size) (e:=63) (size:=2) wd #[] 0 k0.size (by simp) (by simp);simpa using this
 have ak:=mh (an.o.keep (K0.o.trans (k1.mono K0.o.size)));generalize wd.heap.size=gb at R1 ⊢;generalize wd.alloc (.cells #[] 63)=wb at k1 R1 ak ⊢;clear kc;refine hK.o _ _ (F _ k1) fun d=>?_
 (try go_frame);refine aQ 7 fun K hK=>?_
 refine aw rfl (.tmp 43) (.tmp 49) 61 rfl W.heap.size 63 j0 _ 2 32 Tryz.underlying61 hj ap aU aA rfl (by decide) _ _ _ rfl R1 ⟨e1,0,none⟩ p c1 a9 rfl an.o.1 ak.o an.o.2.1 ?_ ?_ ?_ ?_
 · unfold maxLen;omega
 · omega
 · exact k1.size
 intro v7 w7 a0 aV aR;obtain ⟨g7,c7,rfl⟩:=aH a0 aR;have a7:wb.grownBy w7 (some gb):=aV;have q2:Bl W w7:=k1.grown a7 k1.size (fun x e=>by have h1:=Fx e;have h2:=(R1.lt gb rfl).1;omega);have aL:=mh (am.o.keep (K0.o.trans (q2.mono K0.o.size)));have ai:0+p=p:=by omega
 rw [ai,Gb] at a0;refine hK.o _ _ (F _ q2) fun d=>?_
 (try go_frame);refine aQ 15 fun K hK=>?_
 refine aw rfl (.tmp 50) (.tmp 57) 61 rfl W.heap.size 63 j0 _ 2 32 Tryz.underlying61 hj ap aU aA rfl (by decide) _ _ _ ?_ a0 ⟨e1,ox,none⟩ nr cr af rfl am.o.1 aL.o am.o.2.1 ?_ ?_ ?_ ?_
 · first | rfl | (rw [ai];rfl) | simp
 · unfold maxLen;omega
 · omega
 · exact q2.size
 intro v8 w8 al b4 aC;obtain ⟨g8,c8,rfl⟩:=aH al aC;have a5:w7.grownBy w8 (some g7):=b4;have q3:Bl W w8:=q2.grown a5 q2.size (fun x e=>by have h1:=Fx e;have h2:=(a0.lt g7 rfl).1;omega);refine hK.o _ _ (F _ q3) fun d=>?_
 (try go_frame);refine aP 16 1 d ?_;refine dN ?_;have b0:Bl w w8:=K0.o.trans (q3.mono K0.o.size);obtain ⟨a8,bN,e8,aY⟩:=jr al (bd.o.low b0).den;cases e8;have bg:Eq (az 0 w8 (pT g8) (p+nr) c8 (B.take p++B.drop (p+1))):=aY;have Q3:Eq (Bl W w8):=q3;have aZ:=ag.o w8 q3;have x0:=aZ.all;have l0:=a2.o w8 q3;have lz:=Fu _ _ l0;simp only at lz;clear d k0 k1 q2 q3 R1 ak aL a0 aV a7 aR al b4 a5 aC aY b0 aZ ai;go_upto_region 5 with fail
 clear x0 l0 lz;have k5:Bl W w8.drew:=Q3.o.drew;have aJ:Eq (az 0 w8.drew (pT g8) (p+nr) c8 (B.take p++B.drop (p+1))):=bg.o.keep (Below.refl _ w8).drew;refine Co F k5 fun d=>?_
 generalize w8.drew=c5 at k5 aJ d ⊢;refine aP 0 10 d ?_;refine aQ 10 fun K hK=>?_
 go_simp;refine (bi.o _ _ _ _ (K0.o.trans (k5.mono K0.o.size)) aJ.o).mono ?_;rintro e w2 ⟨L,I,N,H,J,Q,E,O,R,rfl,b1,a6,Y⟩;have k2:Bl W w2:=k5.trans (b1.mono k5.size);have bf:Eq (OK=false→(.agg #[iT q,.slice L I N,.slice H J Q,.slice E O R]:Value)=_):=a6;have aI:Eq (OK=true→_):=Y;clear a6 Y b1;go_wp2_with fail
 refine hK.o _ _ (F _ k2) fun d=>?_
 (try go_frame);refine aP 11 2 d ?_;refine aQ 13 fun K hK=>?_
 have y2:=(ba.o _ k2).1;have r0:=y2.all;have U:X+1≠X:=by omega
 have aO:=((((ag.o _ k2).other (b':=X+1) (o:=0) U (iT q)).other (b':=X+1) (o:=1) U (.slice L I N)).other (b':=X+1) (o:=2) U (.slice H J Q)).other (b':=X+1) (o:=3) U (.slice E O R);have aB:=(qj w2 (X+1) (iT q) (.slice L I N) (.slice H J Q) (.slice E O R) b bj.o.2 _).trans (a2.o _ k2);go_simp;refine hK.o _ _ (b3.o _ aO aB) fun d=>?_
 (try go_frame);refine aP 14 1 d ?_;refine dN ?_;have aN:Eq (aE w2 (X+1) (iT 0) nZ nZ nZ):=y2;have be:Eq (Bl w w2):=K0.o.trans (k2.mono K0.o.size);clear aO aB d r0 y2 U;go_wp2;refine bodyPost_ret (v:=.tuple #[.agg #[iT q,.slice L I N,.slice H J Q,.slice E O R],.bool OK]) ?_ rfl (show lj _ _ _ _ _ _ _ _ _ _ _ _ from ⟨L,I,N,H,J,Q,E,O,R,rfl,?_,bf.o,fun h=>?_⟩)
 · have e:=(((aN.o.set0 (iT q)).set1 (.slice L I N)).set2 (.slice H J Q)).set3 (.slice E O R);simp [results,Tryz.results56,go_sem,e.all]
 · have hx:w.heap.size≤X+1:=by have:=HX.o;omega
   exact tk be.o hx _ _ _ _
 · obtain ⟨G,gA,dA,f1,m1,d1,f2,m2,d2,rfl,rfl,hS⟩:=aI.o h;exact ⟨G,gA,dA,f1,m1,d1,f2,m2,d2,rfl,rfl,hS.four (bl.o _ k2) aN.o⟩
theorem lW.mono {b:Nat} {e:Option Addr} {s o G c:Nat} {d:Option Addr} {g cs m t:Nat} {e1 r f e2 n2 n:Nat} (h:lW lo w e s o G c d g cs m t e1 r f e2 n2 n M A B C S) (hl:b≤lo):lW b w e s o G c d g cs m t e1 r f e2 n2 n M A B C S :=
 ⟨h.mem.mono hl,eV h.row hl,h.rA.mono hl,h.rB,h.rC,h.sn.lower hl,h.sk⟩
theorem qC {M b d f:_} {m:Bool} {e:Ending} (g:lo≤w.heap.size) (hg:∀w',Bl w w'→dg lo w' v) (htb:m=true→aY q M [b,d,f] S=true∧mG M b d f) (h:lj w.heap.size q v M b d f S m w e w'):oQ lo w e w':=by
 obtain ⟨n,H,F,J,I,o,u,y,cs,rfl,hb,h0,h1⟩:=h;refine ⟨_,_,rfl,?_,ir.of hb⟩;cases m with
 | false=>rw [h0 rfl];exact hg _ hb
 | true =>
  obtain ⟨G,D,t,e1,r,x,e2,n2,E,rfl,rfl,s⟩:=h1 rfl;exact ⟨q,n,H,F,G,o,u,y,cs,D,t,e1,r,x,e2,n2,E,M,b,d,f,S,rfl,s.mono g,htb rfl⟩
theorem dg.below (h:dg lo w v) (hb:Bl w w'):dg lo w' v:=by
 obtain ⟨q,d,s,o,G,c,b,g,cs,m,t,e1,r,f,e2,n2,n,M,A,B,C,S,rfl,e,htb⟩:=h;exact ⟨q,d,s,o,G,c,b,g,cs,m,t,e1,r,f,e2,n2,n,M,A,B,C,S,rfl,e.below hb,htb⟩
theorem oR (htb:aY q M [A,B,C] S=true):∀Z ∈ [A,B,C],Z.length≤100∧∀r ∈ Z,1≤r.1.length∧r.1.length≤10000:=by
 have d:ef [A,B,C] q=true:=(aZ htb).2.2.2.2.2.2.2.1;unfold ef at d;simp only [FJ] at d;intro Z b;simp only [FF,F4,or_false] at b;rcases b with rfl | rfl | rfl
 · exact cG d.1 (by omega)
 · exact cG d.2.1 (by omega)
 · exact cG d.2.2 (by omega)
theorem vo (lo:Nat) (v:Value) (u o:Int) (w:World) (h:dg lo w v) (f:lo≤w.heap.size):Calls Tryz.prog 56 #[v,iT u,iT o] w (oQ lo w):=by
 have hg:=fun w' (hb:Bl w w')=>h.below hb
 obtain ⟨q,D,y,H,G,c,F,x,cs,K,I,e1,E,J,e2,n2,T,M,A,B,C,S,rfl,d,htb⟩:=h;have hsz:=oR htb.1;obtain ⟨⟨O,Q,N⟩,s,_,_⟩:=td htb.1;have hM:=(aZ htb.1).2.2.1;have hS:=l8 htb.1;have n:y≤1048576:=by have:=d.mem.len;omega
 have t:x≤1048576:=by have:=d.sn.length;omega
 have b:∀Z ∈ [A,B,C],∀r ∈ Z,r.1.length≤150:=fun Z L r hr=>(bF (s Z L r hr)).2.1
 have R:=d.rB.1.length;by_cases h0:u=0∧1≤A.length
 · obtain ⟨rfl,g⟩:=h0;have m:=D6 htb.1 g;exact (Ax 0 q D y H G c F x cs M A B C S K 0 A.length I o w d.treeIn n t hsz d.head.1 (d.rA.runsIn.mono (FB _)) g (by omega) m (yL (b A (by simp)) (b B (by simp)) (by omega))).mono (fun e w' hc=>qC f hg (fun ho=>⟨qW htb.1 g ho,htb.2.compact0 S⟩) hc)
 · by_cases h1:u=1∧0≤o∧o<(E:Int)
   · obtain ⟨rfl,hp0,hp1⟩:=h1;obtain ⟨p,rfl⟩:=Gq hp0;have hp:p<B.length:=by omega
     have m:=D5 htb.1 hp;have hs:((B.drop p).take 1).Sublist B:=(List.take_sublist _ _).trans (Hy _ _);exact (Aw 0 q D y H G c F x cs M A B C S e1 E J p w d.treeIn n t hsz d.head.2.1 d.rB.1 (by omega) (by omega) m (yL (fun r hr=>b B (by simp) r (hs.subset hr)) (b C (by simp)) (by have:=hs.length_le;omega))).mono (fun e w' hc=>qC f hg (fun ho=>⟨qV htb.1 hp ho,htb.2.compact1 p S⟩) hc)
   · exact (Av 0 q D y H G c F x cs M A B C S (pT K) (pT e1) A.length I E J u o w d.treeIn d.head.1 d.head.2.1 ⟨h0,h1⟩).mono (fun e w' hc=>qC f hg (fun ho=>by cases ho) hc)
end Go.Proofs.YtpobkmjicbobdaaGreat
